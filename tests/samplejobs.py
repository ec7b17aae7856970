"""Jobs that are led through deeds, and the same kept along by hand, sheet by sheet."""

from gathersheets.errors import BadDeed
from gathersheets.jobs import Job

WORDS = ("start", "front", "back", "fold", "gather", "bind")
FROM_TO = {"front": ("unprinted", "front"), "back": ("front", "both"), "fold": ("both", "folded")}


class Hand:
    """Each single sheet of a job with what it is now."""

    def __init__(self, sheets, copies):
        self.wanted = copies
        self.now = [[] for _ in range(sheets)]
        self.past = []
        self.lines = ""

    def many(self, sheet, *states):
        return len([state for state in self.now[sheet] if state in states])

    def gatherable(self):
        return min(self.many(sheet, "folded") for sheet in range(len(self.now)))

    def reason(self, deed):
        word, rest = deed[0], list(deed[1:])
        sheet = rest.pop(0) if word in ("start", "front", "back", "fold") else None
        many = rest.pop(0)
        bad = rest.pop(0) if rest else 0
        if sheet is not None and sheet not in range(len(self.now)):
            return "no sheet"
        if many not in range(10001):
            return "many"
        if bad not in range(many + 1):
            return "bad"
        there = {"start": lambda: many, "gather": self.gatherable, "bind": lambda: self.many(0, "gathered")}
        if many > there.get(word, lambda: self.many(sheet, FROM_TO[word][0]))():
            return "not enough"
        return "too many deeds" if len(self.past) == 60 else None

    def move(self, sheet, one, other, many):
        for _ in range(many):
            self.now[sheet][self.now[sheet].index(one)] = other

    def do(self, deed):
        self.past.append([list(states) for states in self.now])
        self.lines += " ".join(map(str, deed)) + "\n"
        word = deed[0]
        if word == "start":
            self.now[deed[1]] += ["unprinted"] * deed[2]
        elif word == "gather":
            for sheet in range(len(self.now)):
                self.move(sheet, "folded", "gathered", deed[1])
        elif word == "bind":
            for sheet in range(len(self.now)):
                self.move(sheet, "gathered", "lost", deed[2])
                self.move(sheet, "gathered", "bound", deed[1] - deed[2])
        else:
            one, other = FROM_TO[word]
            self.move(deed[1], one, "spoiled", deed[3])
            self.move(deed[1], one, other, deed[2] - deed[3])

    def undo(self):
        if not self.past:
            return False
        self.now = self.past.pop()
        self.lines += "undo\n"
        return True

    def told(self):
        """All that a job should tell."""
        sheets = range(len(self.now))
        counts = tuple(tuple(self.many(k, state) for state in ("unprinted", "front", "both", "folded", "spoiled"))
                       for k in sheets)
        short = []
        for sheet in sheets:
            good = [state for state in self.now[sheet] if state not in ("spoiled", "lost")]
            short.append(0 if len(good) >= self.wanted else self.wanted - len(good))
        return {"counts": counts, "copies": tuple(self.many(0, state) for state in ("gathered", "bound", "lost")),
                "gatherable": self.gatherable(), "shortfall": tuple(short),
                "waste": tuple(self.many(k, "spoiled", "lost") for k in sheets),
                "journal": self.lines, "wanted": self.wanted}


def told_by(job):
    """All that a job tells."""
    return {"counts": job.counts(), "copies": job.copies(), "gatherable": job.gatherable(),
            "shortfall": job.shortfall(), "waste": job.waste(), "journal": job.journal(), "wanted": job.wanted()}


def drawn_deed(drawn, sheets, greatest):
    """A deed of any kind, now and then with a wrong number."""
    word = drawn.choice(WORDS)
    sheet = drawn.choice([-1, sheets]) if drawn.random() < 0.04 else drawn.randrange(sheets)
    many = drawn.choice([-1, 10001]) if drawn.random() < 0.04 else drawn.randint(0, greatest)
    bad = drawn.choice([-1, many + 1]) if drawn.random() < 0.04 else drawn.randint(0, max(0, min(many, 2)))
    return {"start": ("start", sheet, many), "gather": ("gather", many),
            "bind": ("bind", many, bad)}.get(word, (word, sheet, many, bad))


def led(sheets, copies, deeds):
    """A job behind some deeds; "undo" takes one back."""
    job = Job(sheets, copies)
    for deed in deeds:
        if deed == "undo":
            job.undo()
        else:
            job.do(deed)
    return job


def drawn_job(drawn, sheets, copies, many):
    """A job behind so many drawn deeds and undos, those that are refused left out."""
    job = Job(sheets, copies)
    for sheet in range(sheets):
        job.do(("start", sheet, drawn.randint(0, 9)))
    for _ in range(many):
        if drawn.random() < 0.15:
            job.undo()
            continue
        try:
            job.do(drawn_deed(drawn, sheets, 4))
        except BadDeed:
            pass
    return job
