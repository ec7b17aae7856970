"""Jobs: the copies of a book that are followed from white paper until they are bound."""

from gathersheets.errors import BadDeed

MOST_IN_DEED = 10000
MOST_DEEDS = 60
# What each deed tells behind its word.
DEEDS = {
    "start": ("sheet", "many"),
    "front": ("sheet", "many", "bad"),
    "back": ("sheet", "many", "bad"),
    "fold": ("sheet", "many", "bad"),
    "gather": ("many",),
    "bind": ("many", "bad"),
}
UNPRINTED = 0
FOLDED = 3
SPOILED = 4
# The place among the counts of a sheet from which a deed takes; good ones go on to the next place.
SOURCES = {"front": 0, "back": 1, "fold": 2}


class Job:
    """Copies of a book with so many sheets, and what was done for them."""

    def __init__(self, sheets, copies):
        self._wanted = copies
        self._sheets = ((0, 0, 0, 0, 0),) * sheets
        self._finished = (0, 0, 0)
        self._past = []
        self._lines = []

    def do(self, deed):
        """Does a deed; one that is refused changes nothing."""
        word = deed[0]
        told = dict(zip(DEEDS[word], deed[1:]))
        sheet = told.get("sheet")
        many = told["many"]
        bad = told.get("bad", 0)
        reason = self._refusal(word, sheet, many, bad)
        if reason is not None:
            raise BadDeed(reason)
        self._past.append((self._sheets, self._finished))
        self._lines.append(" ".join([str(part) for part in deed]))
        if sheet is None:
            self._do_to_copies(word, many, bad)
        else:
            self._do_to_sheet(word, sheet, many, bad)

    def _refusal(self, word, sheet, many, bad):
        """The first reason to refuse a deed, or None."""
        if sheet is not None and not 0 <= sheet < len(self._sheets):
            return "no sheet"
        if not 0 <= many <= MOST_IN_DEED:
            return "many"
        if not 0 <= bad <= many:
            return "bad"
        if not self._has_enough(word, sheet, many):
            return "not enough"
        if len(self._past) >= MOST_DEEDS:
            return "too many deeds"
        return None

    def _has_enough(self, word, sheet, many):
        if word == "start":
            return True
        if word == "gather":
            return many <= self.gatherable()
        if word == "bind":
            return many <= self._finished[0]
        return many <= self._sheets[sheet][SOURCES[word]]

    def _do_to_sheet(self, word, sheet, many, bad):
        if word == "start":
            changes = {UNPRINTED: many}
        else:
            source = SOURCES[word]
            changes = {source: -many, source + 1: many - bad, SPOILED: bad}
        changed = _changed(self._sheets[sheet], changes)
        self._sheets = self._sheets[:sheet] + (changed,) + self._sheets[sheet + 1:]

    def _do_to_copies(self, word, many, bad):
        gathered, bound, lost = self._finished
        if word == "gather":
            self._sheets = tuple([_changed(counts, {FOLDED: -many}) for counts in self._sheets])
            self._finished = (gathered + many, bound, lost)
        else:
            self._finished = (gathered - many, bound + many - bad, lost + bad)

    def undo(self):
        """Takes back the last deed that was not undone; whether there was one."""
        if len(self._past) == 0:
            return False
        self._sheets, self._finished = self._past.pop()
        self._lines.append("undo")
        return True

    def counts(self):
        """For each sheet the numbers (unprinted, front, both, folded, spoiled)."""
        return self._sheets

    def copies(self):
        """The numbers of copies (gathered, bound, lost)."""
        return self._finished

    def gatherable(self):
        """How many copies can be gathered now."""
        return min([counts[FOLDED] for counts in self._sheets], default=0)

    def shortfall(self):
        """For each sheet how many must still be started if no more are spoiled."""
        gathered, bound, _ = self._finished
        still = self._wanted - gathered - bound
        return tuple([max(0, still - sum(counts[:SPOILED])) for counts in self._sheets])

    def waste(self):
        """For each sheet how many were spoiled, those in lost copies too."""
        lost = self._finished[2]
        return tuple([counts[SPOILED] + lost for counts in self._sheets])

    def branch(self):
        """Another job that is as this one is."""
        other = Job(len(self._sheets), self._wanted)
        other._sheets = self._sheets
        other._finished = self._finished
        other._past = list(self._past)
        other._lines = list(self._lines)
        return other

    def journal(self):
        """A line for each deed and undo that was done."""
        return "".join([line + "\n" for line in self._lines])

    def wanted(self):
        """How many copies are wanted."""
        return self._wanted


def _changed(counts, changes):
    """The counts of a sheet with so many more at some places."""
    return tuple([many + changes.get(place, 0) for place, many in enumerate(counts)])
