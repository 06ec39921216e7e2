"""What stands: which commands count, and in what order they are taken."""

import unittest

from tests.lines import (
    LAST_DAY, act, begin, idle, labels, name, next_day, put, read, sections, take, tell, text, word,
)


class FromAndTill(unittest.TestCase):
    def test_from_a_day_on(self):
        told = [act(0), put(begins=10)]
        self.assertEqual([tell(told, read(on=on)) for on in (0, 9, 10, 11, LAST_DAY)], [-2, -2, "t", "t", "t"])

    def test_till_a_day(self):
        told = [act(0), put(begins=10, till=20)]
        found = [tell(told, read(on=on)) for on in (9, 10, 19, 20, 21, LAST_DAY)]
        self.assertEqual(found, [-2, "t", "t", -2, -2, -2])

    def test_for_one_day(self):
        told = [act(0), put(begins=10, till=11)]
        self.assertEqual([tell(told, read(on=on)) for on in (9, 10, 11)], [-2, "t", -2])

    def test_at_the_ends_of_all_days(self):
        told = [act(0), put(label="a", begins=0, till=1), put(label="b", begins=LAST_DAY),
                put(label="c", begins=LAST_DAY - 1, till=LAST_DAY)]
        found = [tell(told, labels(on)) for on in (0, 1, LAST_DAY - 1, LAST_DAY)]
        self.assertEqual(found, [["a"], [], ["c"], ["b"]])

    def test_of_each_kind(self):
        before = [act(0), put(label="a", text="xyz [a]")]
        changes = {
            "put": (put, {"label": "b"}, [("b", "t"), ("a", "xyz [a]")]),
            "take": (take, {}, []),
            "text": (text, {"text": "other"}, [("a", "other")]),
            "word": (word, {"old": "y", "text": "YY"}, [("a", "xYYz [a]")]),
            "name": (name, {"to": "c", "follow": 1}, [("c", "xyz [c]")]),
        }
        for kind, (change, rest, behind) in changes.items():
            told = before + [change(begins=10, till=20, **rest)]
            found = [sections(told, on) for on in (9, 10, 19, 20)]
            with self.subTest(kind):
                self.assertEqual(found, [[("a", "xyz [a]")], behind, behind, [("a", "xyz [a]")]])

    def test_what_is_over_gives_back_what_was_before(self):
        told = [act(0), put(text="first"), text(text="second", begins=5, till=8), text(text="third", begins=6, till=7)]
        found = [tell(told, read(on=on)) for on in range(4, 10)]
        self.assertEqual(found, ["first", "second", "third", "second", "first", "first"])

    def test_what_stood_on_something_that_is_over_has_no_effect_any_more(self):
        told = [act(0), put(label="a", till=5), put(label="b", after="a")]
        self.assertEqual(tell(told, labels(4), labels(5), idle(4), idle(5)), [["a", "b"], [], [], [1]])


class Order(unittest.TestCase):
    def test_by_their_froms(self):
        told = [act(0), put(), text(text="later", begins=7), text(text="earlier", begins=3)]
        self.assertEqual([tell(told, read(on=on)) for on in (2, 3, 6, 7, 8)],
                         ["t", "earlier", "earlier", "later", "later"])

    def test_of_one_from_by_their_numbers(self):
        told = [act(0), put(begins=3), text(text="one", begins=3), text(text="two", begins=3)]
        self.assertEqual(tell(told, read(on=3)), "two")
        told = [act(0), text(text="one", begins=3), put(begins=3), text(text="two", begins=4)]
        self.assertEqual(tell(told, read(on=3), read(on=4), idle(3)), ["t", "two", [0]])

    def test_a_later_command_with_an_earlier_from(self):
        told = [act(0), text(text="new", begins=5), take(begins=6), put(begins=4)]
        self.assertEqual([tell(told, read(on=on)) for on in (3, 4, 5, 6)], [-2, "t", "new", -2])

    def test_of_a_later_act_with_an_earlier_from(self):
        told = [act(10), put(text="xx"), word(old="xx", text="y", begins=8), act(20), text(text="xx xx", begins=2)]
        self.assertEqual(tell(told, read(on=8, known=10), read(on=8, known=20), idle(8, 20)), ["y", "xx xx", [1]])

    def test_not_by_the_days_of_the_acts(self):
        told = [act(10), text(text="told first", begins=6), act(20), put(begins=0), text(text="told last", begins=5)]
        self.assertEqual(tell(told, read(on=6)), "told first")

    def test_many_of_one_from(self):
        told = [act(0)] + [put(label=f"l{number}", after=f"l{number - 1}" if number else "") for number in range(12)]
        self.assertEqual(tell(told, labels()), [f"l{number}" for number in range(12)])

    def test_numbers_of_two_digits_come_behind_those_of_one(self):
        told = [act(0), put()] + [text(text=str(number)) for number in range(1, 120)]
        self.assertEqual(tell(told, read()), "119")


class Known(unittest.TestCase):
    def test_an_act_made_known_on_the_day_and_on_the_day_behind_it(self):
        told = [act(10), put()]
        self.assertEqual([tell(told, read(known=known)) for known in (0, 9, 10, 11, LAST_DAY)],
                         [-2, -2, "t", "t", "t"])

    def test_acts_on_one_day(self):
        told = [act(10), put(label="a"), act(10), put(label="b"), act(11), put(label="c")]
        self.assertEqual([tell(told, labels(known=known)) for known in (9, 10, 11)],
                         [[], ["b", "a"], ["c", "b", "a"]])

    def test_what_was_said_of_days_before_the_act(self):
        told = [act(100), put(begins=10), act(200), text(text="back then", begins=20)]
        self.assertEqual(tell(told, read(on=20, known=99), read(on=20, known=100), read(on=20, known=200),
                              read(on=19, known=200)), [-2, "t", "back then", "t"])

    def test_what_is_to_come_is_known_before(self):
        told = [act(10), put(begins=500)]
        self.assertEqual(tell(told, read(on=499, known=10), read(on=500, known=10), read(on=500, known=9)),
                         [-2, "t", -2])

    def test_on_and_known_at_the_last_day(self):
        told = [act(LAST_DAY), put(begins=LAST_DAY)]
        self.assertEqual(tell(told, read(on=LAST_DAY, known=LAST_DAY), read(on=LAST_DAY - 1, known=LAST_DAY),
                              read(on=LAST_DAY, known=LAST_DAY - 1)), ["t", -2, -2])

    def test_of_all_questions(self):
        told = [act(10), put(text="[z]"), take(label="z"), act(20), take(), put(label="b", text="u", begins=5)]
        self.assertEqual(tell(told, labels(5, 10), labels(5, 20)), [["a"], ["b"]])
        self.assertEqual(tell(told, idle(5, 9), idle(5, 10), idle(5, 20)), [[], [1], [1]])
        self.assertEqual(tell(told, next_day("b", 0, 19), next_day("b", 0, 20)), [None, 5])

    def test_begin_forgets_all(self):
        told = [act(10), put(), begin()]
        self.assertEqual(tell(told, read(), labels(), idle()), [-2, [], []])
        told = [act(10), put(text="old"), begin(), act(10), put(text="new")]
        self.assertEqual(tell(told, read()), "new")

    def test_begin_behind_questions_forgets_all(self):
        told = [act(10), put(text="old"), read(), labels(), idle(), begin(), act(10), take(label="z")]
        self.assertEqual(tell(told, read(), labels(), idle()), [-2, [], [0]])


class OtherLaws(unittest.TestCase):
    def test_each_law_has_its_own_sections(self):
        told = [act(0), put(0, "", "a", "zero"), put(1, "", "a", "one"), put(63, "", "a", "last"), take(1, "a")]
        self.assertEqual([sections(told, law=law) for law in (0, 1, 2, 63)],
                         [[("a", "zero")], [], [], [("a", "last")]])

    def test_each_kind_leaves_the_sections_of_others(self):
        told = [act(0), put(4, "", "a", "xyz [a]"), put(5, "", "a", "xyz [a]")]
        for change in (take(4), text(4, text="u"), word(4, old="y"), name(4, to="b", follow=1), put(4, label="c")):
            self.assertEqual(sections(told + [change], law=5), [("a", "xyz [a]")])
            self.assertNotEqual(sections(told + [change], law=4), [("a", "xyz [a]")])

    def test_all_laws_at_once(self):
        told = [act(0)] + [put(law, "", "a", str(law)) for law in range(64)]
        self.assertEqual(tell(told, *[read(law=law) for law in range(64)]), [str(law) for law in range(64)])


if __name__ == "__main__":
    unittest.main()
