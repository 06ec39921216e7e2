"""The document's words once more, as plainly as they can be written and however slow: what the program is held to.

Calls are tuples: a name and its arguments in the document's order. Texts are Python's str here.
"""

import re

from tests import lines

LAST_DAY = 1048576
LABEL = re.compile(r"[!-Z\\^-~]{1,16}")
TEXT = re.compile(r"[ -~]{0,1024}")
REFERENCE = re.compile(r"\[([!-Z\\^-~]{1,16})\]")


def is_label(value):
    return LABEL.fullmatch(value) is not None


def is_text(value):
    return TEXT.fullmatch(value) is not None


def is_span(begins, till):
    return begins <= LAST_DAY and (till == 0 or begins < till <= LAST_DAY)


class Model:
    def __init__(self):
        self.begin()

    def begin(self):
        self.acts = []
        self.commands = []
        return 0

    def act(self, day):
        if day > LAST_DAY or (self.acts and day < self.acts[-1]):
            return -1
        if len(self.acts) == 512:
            return -28
        self.acts.append(day)
        return len(self.acts) - 1

    def add(self, good, *command):
        if not good:
            return -1
        if not self.acts:
            return -2
        if len(self.commands) == 1024:
            return -28
        self.commands.append((self.acts[-1],) + command)
        return len(self.commands) - 1

    def put(self, law, after, label, text, begins, till):
        good = law <= 63 and (after == "" or is_label(after)) and is_label(label) and is_text(text)
        return self.add(good and is_span(begins, till), "put", law, begins, till, after, label, text)

    def take(self, law, label, begins, till):
        return self.add(law <= 63 and is_label(label) and is_span(begins, till), "take", law, begins, till, label)

    def text(self, law, label, text, begins, till):
        good = law <= 63 and is_label(label) and is_text(text)
        return self.add(good and is_span(begins, till), "text", law, begins, till, label, text)

    def word(self, law, label, old, text, begins, till):
        good = law <= 63 and is_label(label) and is_text(old) and old != "" and is_text(text)
        return self.add(good and is_span(begins, till), "word", law, begins, till, label, old, text)

    def name(self, law, label, to, follow, begins, till):
        good = law <= 63 and is_label(label) and is_label(to) and follow <= 1
        return self.add(good and is_span(begins, till), "name", law, begins, till, label, to, follow)

    def void(self, command):
        return self.add(command < len(self.commands), "void", command)

    def is_void(self, number, known):
        return any(
            command[0] <= known and command[1] == "void" and command[2] == number and not self.is_void(later, known)
            for later, command in enumerate(self.commands) if later > number
        )

    def standing(self, on, known):
        """All laws' sections, each a label and a list of signs with their commands; and the idle commands."""
        taken = []
        for number, command in enumerate(self.commands):
            if command[0] <= known and command[1] != "void" and not self.is_void(number, known):
                kind, law, begins, till = command[1:5]
                if begins <= on and (till == 0 or on < till):
                    taken.append((begins, number, kind, law, command[5:]))
        laws = {}
        idle = []
        for _, number, kind, law, rest in sorted(taken):
            sections = laws.setdefault(law, [])
            if not getattr(self, "do_" + kind)(sections, number, *rest):
                idle.append(number)
        return laws, sorted(idle)

    def do_put(self, sections, number, after, label, text):
        found = [name for name, _ in sections]
        if label in found or (after != "" and after not in found) or len(found) == 64:
            return False
        place = 0 if after == "" else found.index(after) + 1
        sections.insert(place, [label, [(sign, number) for sign in text]])
        return True

    def do_take(self, sections, number, label):
        kept = [section for section in sections if section[0] != label]
        done = len(kept) < len(sections)
        sections[:] = kept
        return done

    def do_text(self, sections, number, label, text):
        for section in sections:
            if section[0] == label:
                section[1] = [(sign, number) for sign in text]
                return True
        return False

    def do_word(self, sections, number, label, old, text):
        for section in sections:
            if section[0] == label:
                whole = "".join(sign for sign, _ in section[1])
                places = [place for place in range(len(whole)) if whole.startswith(old, place)]
                if len(places) != 1 or len(whole) - len(old) + len(text) > 4096:
                    return False
                section[1][places[0]:places[0] + len(old)] = [(sign, number) for sign in text]
                return True
        return False

    def do_name(self, sections, number, label, to, follow):
        found = [name for name, _ in sections]
        if label not in found or to in found:
            return False
        texts = [list(text) for _, text in sections]
        for text in texts:
            whole = "".join(sign for sign, _ in text)
            for match in reversed(list(REFERENCE.finditer(whole))):
                if follow == 1 and match[1] == label:
                    text[match.start(1):match.end(1)] = [(sign, number) for sign in to]
        if any(len(text) > 4096 for text in texts):
            return False
        for section, text in zip(sections, texts, strict=True):
            section[1] = text
        sections[found.index(label)][0] = to
        return True

    def law(self, law, on, known):
        return self.standing(on, known)[0].get(law, [])

    def section(self, law, label, on, known):
        if law > 63 or not is_label(label) or on > LAST_DAY or known > LAST_DAY:
            return -1
        return dict(self.law(law, on, known)).get(label, -2)

    def read(self, law, label, on, known):
        found = self.section(law, label, on, known)
        return found if isinstance(found, int) else "".join(sign for sign, _ in found)

    def labels(self, law, on, known):
        if law > 63 or on > LAST_DAY or known > LAST_DAY:
            return -1
        return [label for label, _ in self.law(law, on, known)]

    def origin(self, law, label, on, known):
        found = self.section(law, label, on, known)
        if isinstance(found, int):
            return found
        rows = []
        for _, number in found:
            if rows and rows[-1][1] == number:
                rows[-1] = (rows[-1][0] + 1, number)
            else:
                rows.append((1, number))
        return rows

    def idle(self, on, known):
        return -1 if on > LAST_DAY or known > LAST_DAY else self.standing(on, known)[1]

    def broken(self, law, on, known, k):
        if law > 63 or on > LAST_DAY or known > LAST_DAY:
            return -1
        sections = self.law(law, on, known)
        there = [label for label, _ in sections]
        found = []
        for label, text in sections:
            for reference in REFERENCE.findall("".join(sign for sign, _ in text)):
                if reference not in there:
                    found.append((label, reference))
        return found[k] if k < len(found) else None

    def next(self, law, label, on, known):
        now = self.read(law, label, on, known)
        if now == -1:
            return -1
        # Behind the last day that a command names nothing changes: up to it each day is looked at.
        named = [day for command in self.commands if command[1] != "void" for day in command[3:5]]
        for day in range(on + 1, max(named, default=0) + 1):
            if self.read(law, label, day, known) != now:
                return day
        return None


def written(call):
    """The call as numbers; the interface has another order of arguments than the document's words."""
    kind, *rest = call
    if kind == "next":
        law, label, on, known = rest
        return lines.next_day(label, on, known, law)
    if kind in ("read", "origin"):
        law, label, on, known = rest
        return getattr(lines, kind)(label, on, known, law)
    if kind == "labels":
        law, on, known = rest
        return lines.labels(on, known, law)
    if kind == "broken":
        law, on, known, k = rest
        return lines.broken(k, on, known, law)
    return getattr(lines, kind)(*rest)


def answer_of(model, call):
    return getattr(model, call[0])(*call[1:])
