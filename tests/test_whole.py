"""Promise 9: what holds over the whole program, over lists of calls that are drawn from written seeds."""

import unittest

from tests.drawn import LABELS, Drawer
from tests.lines import LAST_DAY, act, ask, meaning, name, put, take, tell, text, labels
from tests.model import Model, answer_of, written

LAWS = 2
DAYS = 12


def questions_of(on, known):
    """Everything that may be asked of these days."""
    found = [("idle", on, known)]
    for law in range(LAWS):
        found.append(("labels", law, on, known))
        found.extend(("broken", law, on, known, k) for k in range(3))
        for label in LABELS:
            found.extend((kind, law, label, on, known) for kind in ("read", "origin", "next"))
    return found


def answers_to(told, questions):
    numbers = [written(call) for call in told + questions]
    return ask(*numbers)[len(told):]


def drawn(seed):
    drawer = Drawer(seed, laws=LAWS, days=DAYS, wrong=0)
    return drawer, drawer.told(5, 5)


def model_of(told):
    """The calls that weren't refused, and a model to which they were told."""
    model = Model()
    kept = [call for call in told if answer_of(model, call) >= 0]
    return kept, model


class LaterActs(unittest.TestCase):
    def test_change_nothing_of_what_is_told_as_known_before(self):
        compared = 0
        for seed in range(60):
            _, told = drawn(seed)
            places = [place for place, call in enumerate(told) if call[0] == "act" and call[1] > 0]
            for place in places:
                questions = questions_of(seed % DAYS, told[place][1] - 1)
                before = answers_to(told[:place], questions)
                self.assertEqual(answers_to(told, questions), before, seed)
                compared += sum(len(answer) > 1 for answer in before)
        self.assertGreater(compared, 1000)

    def test_that_are_told_behind_the_question(self):
        for seed in range(100, 130):
            _, told = drawn(seed)
            day = max([call[1] for call in told if call[0] == "act"])
            questions = questions_of(seed % DAYS, day)
            drawer = Drawer(seed + 1000, laws=LAWS, days=DAYS, wrong=0)
            drawer.known = day + 1
            more = drawer.told(3, 5)
            calls = told + questions + more + questions
            found = ask(*[written(call) for call in calls])
            first = found[len(told):len(told) + len(questions)]
            self.assertEqual(found[-len(questions):], first, seed)


class DaysBetween(unittest.TestCase):
    def test_all_stays_while_no_command_begins_or_is_over(self):
        compared = 0
        for seed in range(200, 260):
            drawer, told = drawn(seed)
            told, model = model_of(told)
            # Four days come to stand where one stood, so that there are days between.
            told = [self.stretch(call) for call in told]
            changes = {day for call in told if call[0] not in ("act", "void") for day in call[-2:]}
            known = drawer.random.randrange(DAYS)
            for day in range(4 * DAYS):
                if day + 1 not in changes:
                    before = answers_to(told, questions_of(day, known))
                    self.assertEqual(answers_to(told, questions_of(day + 1, known)), before, (seed, day))
                    compared += sum(len(answer) > 1 for answer in before)
        self.assertGreater(compared, 1000)

    def stretch(self, call):
        if call[0] in ("act", "void"):
            return call
        return (*call[:-2], 4 * call[-2], 4 * call[-1])

    def test_to_the_last_day(self):
        told = [act(0), put(text="[b]", begins=7), text(law=1, text="u", begins=3)]
        self.assertEqual(tell(told, labels(7)), tell(told, labels(LAST_DAY)))


class AnythingElse(unittest.TestCase):
    def changed(self, drawer, told, number, may_void):
        """The calls with another command of this number, of the same days, and of another law and kind maybe."""
        places = [place for place, call in enumerate(told) if call[0] != "act"]
        old = told[places[number]]
        drawer.commands = number
        while True:
            new = drawer.command()
            if new[0] == "void" and may_void and number > 0:
                new = ("void", drawer.random.randrange(number))
                break
            if new[0] == "word" and new[3] == "":
                continue
            if new[0] != "void":
                if old[0] != "void":
                    new = (*new[:-2], *old[-2:])
                break
        return told[:places[number]] + [new] + told[places[number] + 1:]

    def test_might_a_void_command_have_said(self):
        compared = 0
        for seed in range(300, 400):
            drawer, told = drawn(seed)
            told, model = model_of(told)
            for known in (2, 5, DAYS):
                void = [number for number in range(len(model.commands)) if model.is_void(number, known)]
                for number in void:
                    questions = questions_of(drawer.random.randrange(DAYS), known)
                    other = self.changed(drawer, told, number, True)
                    self.assertEqual(answers_to(other, questions), answers_to(told, questions), (seed, number))
                    compared += 1
        self.assertGreater(compared, 100)

    def test_might_a_command_that_is_over_have_said(self):
        compared = 0
        for seed in range(400, 440):
            drawer, told = drawn(seed)
            told, model = model_of(told)
            on = drawer.random.randrange(DAYS)
            over = [number for number, command in enumerate(model.commands)
                    if command[1] != "void" and 0 < command[4] <= on]
            for number in over:
                questions = questions_of(on, DAYS)
                other = self.changed(drawer, told, number, False)
                self.assertEqual(answers_to(other, questions), answers_to(told, questions), (seed, number))
                compared += 1
        self.assertGreater(compared, 100)

    def test_a_void_of_what_is_over_or_void_changes_nothing(self):
        told = [act(0), put(), take(label="a", begins=2, till=4)]
        for on in (4, 9):
            self.assertEqual(tell(told, labels(on)), tell(told + [[7, 1]], labels(on)))


class OneLabel(unittest.TestCase):
    def test_no_two_sections_have(self):
        several = 0
        for seed in range(500, 600):
            _, told = drawn(seed)
            questions = [("labels", law, on, known) for law in range(LAWS) for on in range(0, DAYS + 6, 2)
                         for known in (3, DAYS)]
            for question, answer in zip(questions, answers_to(told, questions), strict=True):
                found = meaning(written(question), answer)
                self.assertEqual(len(found), len(set(found)), (seed, question))
                several += len(found) > 1
        self.assertGreater(several, 500)

    def test_by_put_or_by_name(self):
        told = [act(0), put(label="a"), put(label="b"), put(label="a", after="b"), name(label="a", to="b"),
                name(label="b", to="c"), put(label="b"), name(label="c", to="a"), take(label="z")]
        self.assertEqual(sorted(tell(told, labels())), ["a", "b", "c"])


if __name__ == "__main__":
    unittest.main()
