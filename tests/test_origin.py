"""Promise 5: origin."""

import unittest

from tests.lines import act, ask, name, origin, put, read, take, tell, text, void, word
from tests.long_texts import MOST, long_section


class Origin(unittest.TestCase):
    def rows(self, *told, label="a", on=0):
        found = tell([act(0), *told], origin(label, on), read(label, on))
        self.assertEqual(sum(size for size, _ in found[0]), len(found[1]))
        return found[0]

    def test_a_text_of_no_bytes(self):
        self.assertEqual(ask(act(0), put(text=""), origin())[-1], [0])

    def test_of_one_command(self):
        self.assertEqual(self.rows(put(text="hello")), [(5, 0)])
        self.assertEqual(self.rows(take(label="z"), put(text="h")), [(1, 1)])

    def test_another_text(self):
        self.assertEqual(self.rows(put(text="hello"), text(text="bye")), [(3, 1)])
        self.assertEqual(self.rows(put(text="hello"), text(text="hello")), [(5, 1)])
        self.assertEqual(self.rows(put(text="hello"), text(text="")), [])

    def test_a_word_between(self):
        self.assertEqual(self.rows(put(text="one two three"), word(old="two", text="2")), [(4, 0), (1, 1), (6, 0)])

    def test_a_word_at_the_beginning_and_at_the_end(self):
        self.assertEqual(self.rows(put(text="one two"), word(old="one", text="first")), [(5, 1), (4, 0)])
        self.assertEqual(self.rows(put(text="one two"), word(old="two", text="last")), [(4, 0), (4, 1)])
        self.assertEqual(self.rows(put(text="one"), word(old="one", text="1")), [(1, 1)])

    def test_a_word_that_says_the_same(self):
        self.assertEqual(self.rows(put(text="one two"), word(old="two", text="two")), [(4, 0), (3, 1)])
        self.assertEqual(self.rows(put(text="one two"), word(old="two", text="two two")), [(4, 0), (7, 1)])

    def test_a_word_that_shares_bytes_with_what_was_there(self):
        self.assertEqual(self.rows(put(text="abcd"), word(old="bc", text="bxc")), [(1, 0), (3, 1), (1, 0)])

    def test_a_word_of_no_bytes_leaves_one_row(self):
        self.assertEqual(self.rows(put(text="one two three"), word(old=" two", text="")), [(9, 0)])
        self.assertEqual(self.rows(put(text="one"), word(old="one", text="")), [])

    def test_a_word_of_no_bytes_between_two_commands(self):
        found = self.rows(put(text="ab!cd"), word(old="cd", text="CD"), word(old="!", text=""))
        self.assertEqual(found, [(2, 0), (2, 1)])

    def test_two_stretches_of_one_command_with_none_between(self):
        told = [put(text="abcd"), word(old="bc", text="BC"), word(old="BC", text="")]
        self.assertEqual(self.rows(*told), [(2, 0)])

    def test_two_stretches_of_one_command_with_anothers_between(self):
        told = [put(text="abcd"), word(old="b", text="--"), word(old="-d", text="none"), word(old="d", text="..")]
        self.assertEqual(self.rows(*told), [(1, 0), (2, 1), (1, 0), (2, 3)])

    def test_a_word_within_what_a_word_brought(self):
        told = [put(text="a.z"), word(old=".", text="(old)"), word(old="old", text="new one")]
        self.assertEqual(self.rows(*told), [(1, 0), (1, 1), (7, 2), (1, 1), (1, 0)])

    def test_a_word_over_several_commands(self):
        told = [put(text="a.z"), word(old=".", text="12"), word(old="2z", text="!")]
        self.assertEqual(self.rows(*told), [(1, 0), (1, 1), (1, 2)])

    def test_two_rows_that_touch_of_two_later_commands(self):
        told = [put(text="xy"), word(old="x", text="11"), word(old="y", text="222")]
        self.assertEqual(self.rows(*told), [(2, 1), (3, 2)])

    def test_name_without_follow_brings_nothing(self):
        self.assertEqual(self.rows(put(text="see [a]"), name(to="b"), label="b"), [(7, 0)])

    def test_name_with_follow_brings_the_label_alone(self):
        found = self.rows(put(text="see [a]."), name(to="bcd", follow=1), label="bcd")
        self.assertEqual(found, [(5, 0), (3, 1), (2, 0)])

    def test_name_with_follow_in_another_section(self):
        told = [put(label="b", text="[a][a] [c]"), put(), name(to="dd", follow=1)]
        self.assertEqual(self.rows(*told, label="b"), [(1, 0), (2, 2), (2, 0), (2, 2), (5, 0)])
        self.assertEqual(self.rows(*told, label="dd"), [(1, 1)])

    def test_name_with_follow_leaves_references_that_were_to_the_new_label(self):
        told = [put(label="b", text="[c][a]"), put(), name(to="c", follow=1)]
        self.assertEqual(self.rows(*told, label="b"), [(4, 0), (1, 2), (1, 0)])

    def test_name_with_follow_twice(self):
        told = [put(label="b", text="[a]"), put(), name(to="c", follow=1), name(label="c", to="a", follow=1)]
        self.assertEqual(self.rows(*told, label="b"), [(1, 0), (1, 3), (1, 0)])

    def test_name_with_follow_where_the_brackets_are_of_others(self):
        told = [put(label="b", text="(a)"), put(), word(label="b", old="(", text="["), word(label="b", old=")", text="]"),
                name(to="cc", follow=1)]
        self.assertEqual(self.rows(*told, label="b"), [(1, 2), (2, 4), (1, 3)])

    def test_what_has_no_effect_brings_nothing(self):
        told = [put(text="hello"), put(text="other"), word(old="l", text="L"), word(old="zz"), name(to="a", follow=1)]
        self.assertEqual(self.rows(*told), [(5, 0)])

    def test_by_number_and_not_by_order(self):
        told = [put(text="x"), word(old="y", text="z", begins=5), word(old="x", text="xy", begins=3)]
        self.assertEqual(self.rows(*told, on=4), [(2, 2)])
        self.assertEqual(self.rows(*told, on=5), [(1, 2), (1, 1)])

    def test_numbers_run_over_acts_and_voids(self):
        told = [act(5), put(text="x"), void(0), act(6), put(text="xy"), word(old="y", text="Y")]
        self.assertEqual(tell(told, origin()), [(1, 2), (1, 3)])

    def test_other_laws_and_labels(self):
        told = [act(0), put(0, "", "a", "one"), put(1, "", "a", "three"), put(0, "", "b", "xx")]
        self.assertEqual(tell(told, origin("a"), origin("a", law=1), origin("b"), origin("c"), origin("b", law=1)),
                         [[(3, 0)], [(5, 1)], [(2, 2)], -2, -2])

    def test_the_longest_text(self):
        told = long_section("a", MOST)
        self.assertEqual(self.rows(*told), [(1023, 0), (1023, 1), (1023, 2), (1023, 3), (4, 4)])

    def test_many_rows(self):
        told = [put(text="".join(chr(97 + place) + "." for place in range(20)))]
        told += [word(old=chr(97 + place), text=chr(65 + place)) for place in range(20)]
        rows = []
        for place in range(20):
            rows += [(1, place + 1), (1, 0)]
        self.assertEqual(self.rows(*told), rows)


if __name__ == "__main__":
    unittest.main()
