"""Lists of calls that are drawn, as tuples, from a written seed."""

import random

LABELS = ["a", "b", "c", "dd", "sixteen-bytes-16", "!", "\\~"]
PIECES = ["x", "xx", "xyx", " ", "[", "]", "[a]", "[b]", "[dd]", "[sixteen-bytes-16]", "[none]", "[a b]", "[]",
          "[[a]", "[a]]", "[seventeen-bytes17]", ""]
WRONG_LABELS = ["", " ", "[a]", "seventeen-bytes17"]
LAST_DAY = 1048576

# Drawn evenly, most commands would find no section: a few labels come most, and sections early.
LABEL_WEIGHTS = [10, 6, 3, 2, 1, 1, 1]
OLDS = ["x", "x", "y", "[a]", "[b", " ", "]", "xx", "[", "a", "none", ""]


class Drawer:
    def __init__(self, seed, laws=2, days=12, wrong=0.03):
        self.random = random.Random(seed)
        self.laws = laws
        self.days = days
        self.wrong = wrong
        self.known = 0
        self.commands = 0

    def is_wrong(self):
        return self.random.random() < self.wrong

    def law(self):
        return self.random.choice([64, 65, 4294967295]) if self.is_wrong() else self.random.randrange(self.laws)

    def day(self):
        if self.is_wrong():
            return self.random.choice([LAST_DAY + 1, 4294967295])
        return self.random.randrange(self.days)

    def label(self):
        if self.is_wrong():
            return self.random.choice(WRONG_LABELS)
        return self.random.choices(LABELS, LABEL_WEIGHTS)[0]

    def text(self):
        return "".join(self.random.choice(PIECES) for _ in range(self.random.randrange(5)))

    def span(self, early=False):
        begins = self.day()
        if early and begins <= LAST_DAY:
            begins //= 3
        if self.random.random() < 0.6:
            return begins, 0
        return begins, begins + self.random.randrange(0 if self.is_wrong() else 1, 6)

    def act(self):
        self.known += self.random.choice([0, 1, 1, 2])
        return "act", self.known

    def command(self):
        kind = self.random.choice(["put"] * 5 + ["take"] + ["text"] * 2 + ["word"] * 4 + ["name"] * 3 + ["void"])
        self.commands += 1
        if kind == "void":
            return "void", self.random.randrange(max(1, self.commands))
        law, label = self.law(), self.label()
        if kind == "put":
            after = self.random.choice(["", "", self.label()])
            return (kind, law, after, label, self.text(), *self.span(early=True))
        if kind == "take":
            return (kind, law, label, *self.span())
        if kind == "text":
            return (kind, law, label, self.text(), *self.span())
        if kind == "word":
            return (kind, law, label, self.random.choice(OLDS), self.text(), *self.span())
        return (kind, law, label, self.label(), 2 if self.is_wrong() else self.random.randrange(2), *self.span())

    def question(self):
        kind = self.random.choice(["read", "labels", "origin", "idle", "broken", "next"])
        on, known = self.day(), self.day()
        if kind == "idle":
            return kind, on, known
        if kind == "labels":
            return kind, self.law(), on, known
        if kind == "broken":
            return kind, self.law(), on, known, self.random.choice([0, 1, 2, 5, 4294967295])
        return kind, self.law(), self.label(), on, known

    def told(self, acts, commands):
        """Acts, each with its commands."""
        found = []
        for _ in range(acts):
            found.append(self.act())
            found.extend(self.command() for _ in range(self.random.randrange(commands * 2)))
        return found

    def mixed(self, size):
        """Calls of all kinds in any order."""
        found = []
        for _ in range(size):
            chance = self.random.random()
            if chance < 0.1:
                found.append(self.act())
            elif chance < 0.7:
                found.append(self.command())
            else:
                found.append(self.question())
        return found

    def all_questions(self):
        """What may be asked of each law, label and day, as known on each day."""
        found = []
        for known in range(0, self.days, 3):
            for on in range(self.days):
                found.append(("idle", on, known))
                for law in range(self.laws):
                    found.append(("labels", law, on, known))
                    found.append(("broken", law, on, known, 0))
                    for label in LABELS:
                        found.append(("read", law, label, on, known))
                        found.append(("origin", law, label, on, known))
        return found
