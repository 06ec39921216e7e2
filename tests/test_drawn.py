"""Points 1 to 8 over drawn lists of calls: the program answers as the model does, which takes all anew each time."""

import unittest

from tests.drawn import LABELS, Drawer
from tests.lines import ask, meaning
from tests.model import Model, answer_of, written

QUESTIONS = ("read", "labels", "origin", "idle", "broken", "next")


class Drawn(unittest.TestCase):
    def check(self, calls):
        model = Model()
        found = ask(*[written(call) for call in calls])
        for place, (call, answer) in enumerate(zip(calls, found, strict=True)):
            told = meaning(written(call), answer) if call[0] in QUESTIONS else answer[0]
            if call[0] not in QUESTIONS:
                self.assertEqual(len(answer), 1)
            self.assertEqual(told, answer_of(model, call), (calls[:place], call))

    def test_calls_of_all_kinds(self):
        for seed in range(150):
            with self.subTest(seed):
                drawer = Drawer(seed)
                self.check([drawer.act()] + drawer.mixed(80))

    def test_one_law_without_wrong_inputs(self):
        for seed in range(1000, 1300):
            with self.subTest(seed):
                drawer = Drawer(seed, laws=1, days=8, wrong=0)
                self.check([drawer.act()] + drawer.mixed(100))

    def test_begin_called_again(self):
        for seed in range(2000, 2030):
            with self.subTest(seed):
                calls = []
                for part in range(3):
                    drawer = Drawer(seed + 100 * part)
                    calls += [("begin",), drawer.act()] + drawer.mixed(40)
                self.check(calls)

    def test_next_from_each_day(self):
        for seed in range(3000, 3025):
            with self.subTest(seed):
                drawer = Drawer(seed, laws=1, days=8, wrong=0)
                calls = drawer.told(4, 5)
                calls += [("next", 0, label, on, known) for label in LABELS[:3] for on in range(14) for known in (2, 9)]
                self.check(calls)

    def test_each_question_behind_each_other(self):
        for seed in range(4000, 4015):
            with self.subTest(seed):
                drawer = Drawer(seed, days=9, wrong=0)
                calls = drawer.told(4, 5)
                questions = drawer.all_questions()
                drawer.random.shuffle(questions)
                self.check(calls + questions[:400])


class Marks(unittest.TestCase):
    """The drawn lists hold what they are drawn for."""

    def test_each_answer_is_met(self):
        met = set()
        for seed in range(150):
            drawer = Drawer(seed)
            calls = [drawer.act()] + drawer.mixed(80)
            for call, answer in zip(calls, ask(*[written(call) for call in calls]), strict=True):
                met.add((call[0], min(answer[0], 1) if call[0] in QUESTIONS else answer[0] >= 0, len(answer) > 2))
        for kind in ("read", "origin"):
            self.assertLessEqual({(kind, -1, False), (kind, -2, False), (kind, 0, False), (kind, 0, True)}, met)
        self.assertLessEqual({("idle", -1, False), ("idle", 0, False), ("idle", 0, True)}, met)
        self.assertLessEqual({("broken", -1, False), ("broken", 0, False), ("broken", 1, True)}, met)
        self.assertLessEqual({("next", -1, False), ("next", 0, False), ("next", 1, False)}, met)
        for kind in ("put", "take", "text", "word", "name", "void"):
            self.assertLessEqual({(kind, True, False), (kind, False, False)}, met)


if __name__ == "__main__":
    unittest.main()
