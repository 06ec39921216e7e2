"""Promise 4: read and labels."""

import unittest

from tests.lines import act, ask, labels, name, put, read, take, tell, text
from tests.long_texts import MOST, long_section


class Read(unittest.TestCase):
    def test_the_text(self):
        self.assertEqual(tell([act(0), put(text="some text")], read()), "some text")

    def test_a_text_of_no_bytes_is_a_text(self):
        self.assertEqual(ask(act(0), put(text=""), read())[-1], [0])

    def test_the_longest_text(self):
        self.assertEqual(tell([act(0)] + long_section("a", MOST), read()), "x" * (MOST - 1) + "!")

    def test_no_section_has_this_label(self):
        told = [act(0), put(label="ab"), put(label="c"), take(label="c"), put(1, label="d")]
        for label in ("a", "b", "abc", "c", "d", "AB"):
            self.assertEqual(tell(told, read(label)), -2)

    def test_by_the_label_that_it_has_now(self):
        told = [act(0), put(label="a"), name(to="b", begins=4)]
        self.assertEqual(tell(told, read("a", 3), read("b", 3), read("a", 4), read("b", 4)), ["t", -2, -2, "t"])

    def test_the_longest_label(self):
        self.assertEqual(tell([act(0), put(label="x" * 16)], read("x" * 16), read("x" * 15)), ["t", -2])


class Labels(unittest.TestCase):
    def test_none(self):
        self.assertEqual(ask(act(0), labels())[-1], [0, 0])

    def test_in_order(self):
        told = [act(0), put(label="b"), put(label="a", after="b"), put(label="d"), put(label="c", after="d")]
        self.assertEqual(tell(told, labels()), ["d", "c", "b", "a"])

    def test_a_label_keeps_its_place(self):
        told = [act(0), put(label="c"), put(label="b"), put(label="a"), name(label="b", to="zz"), text(label="c")]
        self.assertEqual(tell(told, labels()), ["a", "zz", "c"])

    def test_64_of_16_bytes(self):
        told = [act(0)] + [put(label=f"{number:016}") for number in range(64)]
        self.assertEqual(tell(told, labels()), [f"{number:016}" for number in range(63, -1, -1)])

    def test_of_each_day(self):
        told = [act(0), put(label="a", begins=2, till=5), put(label="b", begins=3), take(label="b", begins=6)]
        self.assertEqual([tell(told, labels(on)) for on in range(1, 7)],
                         [[], ["a"], ["b", "a"], ["b", "a"], ["b"], []])


if __name__ == "__main__":
    unittest.main()
