"""Jobs that are made again out of their journals."""

from gathersheets.errors import BadDeed, BadJournal
from gathersheets.figures import read_number
from gathersheets.jobs import DEEDS, Job


def replay(sheets, copies, text):
    """The job of a journal, or of a beginning of one."""
    job = Job(sheets, copies)
    # What stands behind the last newline is not a whole line.
    for place, line in enumerate(text.split("\n")[:-1], start=1):
        if not _does_line(job, line):
            raise BadJournal(place)
    return job


def _does_line(job, line):
    """Whether a line tells what can be done; then it is done."""
    if line == "undo":
        return job.undo()
    deed = _read_deed(line)
    if deed is None:
        return False
    try:
        job.do(deed)
    except BadDeed:
        return False
    return True


def _read_deed(line):
    """The deed that a line tells, or None."""
    word, *rest = line.split(" ")
    numbers = [read_number(text) for text in rest]
    if word not in DEEDS or len(numbers) != len(DEEDS[word]) or None in numbers:
        return None
    return word, *numbers
