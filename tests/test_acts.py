"""Promise 1: begin and act."""

import unittest

from tests.lines import act, ask_numbers, begin, take

LAST_DAY = 1048576
LAST_NUMBER = 4294967295


class Begin(unittest.TestCase):
    def test_answers_0_each_time(self):
        self.assertEqual(ask_numbers(begin(), begin()), [0, 0])

    def test_leaves_no_acts(self):
        self.assertEqual(ask_numbers(act(5), act(6), begin(), take()), [0, 1, 0, -2])

    def test_numbers_acts_from_0_again(self):
        self.assertEqual(ask_numbers(act(5), act(6), begin(), act(7), act(8)), [0, 1, 0, 0, 1])

    def test_forgets_the_last_acts_day(self):
        self.assertEqual(ask_numbers(act(500), act(499), begin(), act(0)), [0, -1, 0, 0])

    def test_numbers_commands_from_0_again(self):
        self.assertEqual(ask_numbers(act(5), take(), take(), begin(), act(5), take()), [0, 0, 1, 0, 0, 0])

    def test_makes_room_for_acts(self):
        found = ask_numbers(*[act(3)] * 513, begin(), *[act(3)] * 513)
        once = list(range(512)) + [-28]
        self.assertEqual(found, once + [0] + once)

    def test_makes_room_for_commands(self):
        found = ask_numbers(act(3), *[take()] * 1025, begin(), act(3), take())
        self.assertEqual(found[-5:], [1023, -28, 0, 0, 0])


class Act(unittest.TestCase):
    def test_is_numbered_from_0_on(self):
        self.assertEqual(ask_numbers(act(1), act(20), act(300), act(4000)), [0, 1, 2, 3])

    def test_takes_the_first_and_the_last_day(self):
        self.assertEqual(ask_numbers(act(0)), [0])
        self.assertEqual(ask_numbers(act(LAST_DAY)), [0])
        self.assertEqual(ask_numbers(act(0), act(LAST_DAY), act(LAST_DAY)), [0, 1, 2])

    def test_refuses_days_above_the_last(self):
        self.assertEqual(ask_numbers(act(LAST_DAY + 1), act(LAST_NUMBER)), [-1, -1])
        self.assertEqual(ask_numbers(act(3), act(LAST_DAY + 1), act(LAST_NUMBER)), [0, -1, -1])

    def test_takes_the_last_acts_day_and_refuses_the_day_before(self):
        self.assertEqual(ask_numbers(act(100), act(100), act(99), act(0), act(101)), [0, 1, -1, -1, 2])

    def test_a_refused_one_does_not_move_the_last_acts_day(self):
        self.assertEqual(ask_numbers(act(10), act(LAST_DAY + 1), act(10)), [0, -1, 1])
        self.assertEqual(ask_numbers(act(10), act(4), act(5), act(9), act(10)), [0, -1, -1, -1, 1])

    def test_a_refused_one_is_no_act(self):
        self.assertEqual(ask_numbers(act(LAST_DAY + 1), take(), act(0), take()), [-1, -2, 0, 0])

    def test_commands_between_do_not_count_as_acts(self):
        self.assertEqual(ask_numbers(act(1), take(), take(), act(1), take()), [0, 0, 1, 1, 2])

    def test_there_are_512_at_most(self):
        found = ask_numbers(*[act(day) for day in range(514)])
        self.assertEqual(found, list(range(512)) + [-28, -28])

    def test_a_wrong_day_is_told_before_too_many(self):
        full = [act(9)] * 512
        found = ask_numbers(*full, act(LAST_DAY + 1), act(8), act(9), act(LAST_DAY))
        self.assertEqual(found[512:], [-1, -1, -28, -28])

    def test_one_too_many_does_not_move_the_last_acts_day(self):
        found = ask_numbers(*[act(9)] * 512, act(20), act(10), act(8))
        self.assertEqual(found[512:], [-28, -28, -1])

    def test_refused_ones_do_not_fill_the_room(self):
        found = ask_numbers(act(9), *[act(8)] * 600, *[act(9)] * 512)
        self.assertEqual(found[601:], list(range(1, 512)) + [-28])


if __name__ == "__main__":
    unittest.main()
