"""Promise 6: idle."""

import unittest

from tests.lines import act, ask, idle, name, put, take, tell, text, void, word


class Idle(unittest.TestCase):
    def test_none(self):
        self.assertEqual(ask(act(0), put(), text(text="u"), take(), idle())[-1], [0])

    def test_of_each_kind(self):
        told = [act(0), put(after="z"), take(), text(), word(), name()]
        self.assertEqual(tell(told, idle()), [0, 1, 2, 3, 4])

    def test_rising_whatever_the_order_and_the_law(self):
        told = [act(0), take(law=5, begins=9), take(law=2, begins=3), take(law=5, begins=1), take(law=2, begins=9),
                take(law=63)]
        self.assertEqual(tell(told, idle(9)), [0, 1, 2, 3, 4])

    def test_of_all_laws(self):
        told = [act(0)] + [take(law) for law in range(63, -1, -1)] + [put(law) for law in range(64)]
        self.assertEqual(tell(told, idle()), list(range(64)))

    def test_only_those_that_count(self):
        told = [act(5), take(begins=10, till=20), act(8), take(begins=15)]
        found = [tell(told, idle(on, 8)) for on in (9, 10, 14, 15, 19, 20)]
        self.assertEqual(found, [[], [0], [0], [0, 1], [0, 1], [1]])
        self.assertEqual(tell(told, idle(15, 4), idle(15, 5), idle(15, 7), idle(15, 8)), [[], [0], [0], [0, 1]])

    def test_not_what_is_void(self):
        told = [act(0), take(), take(), void(0)]
        self.assertEqual(tell(told, idle()), [1])
        self.assertEqual(tell(told + [void(2)], idle()), [0, 1])

    def test_not_a_void(self):
        self.assertEqual(tell([act(0), put(), void(0), void(0), void(1)], idle()), [])

    def test_on_one_day_idle_and_on_another_not(self):
        told = [act(0), put(begins=5, till=8), text(text="u", begins=2)]
        self.assertEqual([tell(told, idle(on)) for on in range(1, 9)], [[], [1], [1], [1], [1], [1], [1], [1]])
        told = [act(0), put(begins=2, till=8), text(text="u", begins=5)]
        self.assertEqual([tell(told, idle(on)) for on in range(1, 9)], [[], [], [], [], [], [], [], [1]])

    def test_made_idle_by_an_act_that_came_later(self):
        told = [act(5), put(), take(begins=3), act(9), take(begins=2)]
        self.assertEqual(tell(told, idle(3, 5), idle(3, 9), idle(2, 9)), [[], [1], []])

    def test_1024_commands(self):
        told = [act(0)] + [take()] * 1024
        self.assertEqual(tell(told, idle()), list(range(1024)))


if __name__ == "__main__":
    unittest.main()
