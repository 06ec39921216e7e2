"""Promise 8: next."""

import unittest

from tests.lines import LAST_DAY, act, name, next_day, put, take, tell, text, void, word


class Next(unittest.TestCase):
    def days(self, told, ons, label="a", known=LAST_DAY):
        return [tell([act(0)] + told, next_day(label, on, known)) for on in ons]

    def test_none(self):
        self.assertEqual(tell([], next_day()), None)
        self.assertEqual(self.days([], [0, LAST_DAY]), [None, None])
        self.assertEqual(self.days([put()], [0, 5, LAST_DAY]), [None, None, None])

    def test_the_day_on_which_it_comes(self):
        self.assertEqual(self.days([put(begins=7)], [0, 5, 6, 7, 8]), [7, 7, 7, None, None])

    def test_the_day_on_which_it_goes(self):
        told = [put(begins=3), take(begins=7)]
        self.assertEqual(self.days(told, [0, 2, 3, 6, 7, 8]), [3, 3, 7, 7, None, None])

    def test_the_day_on_which_it_is_over(self):
        told = [put(begins=3, till=7)]
        self.assertEqual(self.days(told, [0, 2, 3, 6, 7, 8]), [3, 3, 7, 7, None, None])

    def test_another_text(self):
        told = [put(text="one two"), text(text="three", begins=5), word(old="three", text="four", begins=9)]
        self.assertEqual(self.days(told, [0, 4, 5, 8, 9]), [5, 5, 9, 9, None])

    def test_the_first_day_of_several(self):
        told = [put(), text(text="u", begins=9), text(text="v", begins=6), text(text="w", begins=12)]
        self.assertEqual(self.days(told, [0, 6, 9, 12]), [6, 9, 12, None])

    def test_a_day_on_which_something_is_over_behind_one_on_which_something_begins(self):
        told = [put(), text(text="u", begins=2, till=20), text(text="v", begins=5, till=9), put(label="b", till=30)]
        self.assertEqual(self.days(told, [0, 2, 5, 9, 20]), [2, 5, 9, 20, None])

    def test_something_begins_but_the_text_stays(self):
        told = [put(text="same"), text(text="same", begins=3), put(label="b", begins=4), take(label="z", begins=5),
                word(old="same", text="same", begins=6), put(begins=7), text(law=1, text="u", begins=8),
                text(text="other", begins=9)]
        self.assertEqual(self.days(told, [0, 2, 3, 8]), [9, 9, 9, 9])

    def test_something_is_over_but_the_text_stays(self):
        told = [put(text="same"), text(text="same", begins=0, till=3), take(label="z", till=4), put(label="b", till=5)]
        self.assertEqual(self.days(told, [0]), [None])

    def test_it_goes_and_another_of_its_label_comes_on_one_day(self):
        told = [put(text="same"), take(begins=4), put(text="same", begins=4), take(begins=6), put(text="u", begins=6)]
        self.assertEqual(self.days(told, [0, 4, 6]), [6, 6, None])

    def test_it_goes_and_comes_again_later(self):
        told = [put(), take(begins=4, till=6)]
        self.assertEqual(self.days(told, [0, 3, 4, 5, 6]), [4, 4, 6, 6, None])

    def test_a_text_of_no_bytes_is_not_no_section(self):
        told = [put(text="", begins=3), take(begins=5)]
        self.assertEqual(self.days(told, [0, 3, 5]), [3, 5, None])

    def test_compared_with_the_day_on_alone(self):
        # From 5 on it's another text than on day 0, and on day 8 the first one again.
        told = [put(text="x"), text(text="y", begins=5, till=8)]
        self.assertEqual(self.days(told, [0, 4, 5, 6, 7, 8]), [5, 5, 8, 8, 8, None])

    def test_another_label(self):
        told = [put(), name(to="b", begins=5), name(label="b", to="a", begins=9)]
        self.assertEqual(self.days(told, [0, 5, 9]), [5, 9, None])
        self.assertEqual(self.days(told, [0, 5, 9], label="b"), [5, 9, None])

    def test_a_follow_in_another_section(self):
        told = [put(label="b", text="[a] [c]"), put(), name(to="d", follow=1, begins=5)]
        self.assertEqual(self.days(told, [0, 5], label="b"), [5, None])
        told = [put(label="b", text="[a] [c]"), put(), name(to="d", follow=0, begins=5)]
        self.assertEqual(self.days(told, [0, 5], label="b"), [None, None])

    def test_another_place_is_no_change(self):
        told = [put(label="b"), put(), take(begins=4), put(after="b", begins=4)]
        self.assertEqual(self.days(told, [0]), [None])

    def test_the_last_day(self):
        told = [put(begins=LAST_DAY)]
        self.assertEqual(self.days(told, [0, LAST_DAY - 1, LAST_DAY]), [LAST_DAY, LAST_DAY, None])
        told = [put(till=LAST_DAY)]
        self.assertEqual(self.days(told, [0, LAST_DAY - 1, LAST_DAY]), [LAST_DAY, LAST_DAY, None])

    def test_from_the_first_day_to_the_next(self):
        self.assertEqual(self.days([put(till=1)], [0, 1]), [1, None])
        self.assertEqual(self.days([put(begins=1)], [0, 1]), [1, None])

    def test_as_known(self):
        told = [act(10), put(), act(20), text(text="u", begins=15), act(30), void(1), act(40), take(begins=2)]
        found = [tell(told, next_day("a", 0, known)) for known in (9, 10, 19, 20, 29, 30, 39, 40)]
        self.assertEqual(found, [None, None, None, 15, 15, None, None, 2])

    def test_what_is_void_makes_no_day(self):
        self.assertEqual(self.days([put(begins=5), put(begins=8), void(0)], [0]), [8])

    def test_of_another_law(self):
        told = [act(0), put(1, begins=5), put(2, begins=6)]
        self.assertEqual(tell(told, next_day(), next_day(law=1), next_day(law=2)), [None, 5, 6])

    def test_many_days(self):
        told = [put(text="0")] + [text(text=str(day), begins=day, till=day + 2) for day in range(2, 302, 2)]
        self.assertEqual(self.days(told, range(0, 300)), [on - on % 2 + 2 for on in range(300)])

    def test_far_behind_many_days_without_a_change(self):
        told = [put()] + [put(label=f"l{day}", begins=day, till=2 * day) for day in range(1, 500)]
        told.append(take(begins=5000))
        self.assertEqual(self.days(told, [0]), [5000])


if __name__ == "__main__":
    unittest.main()
