"""Promise 7: broken; and what a reference is."""

import unittest

from tests.lines import LAST_NUMBER, act, all_broken, broken, name, put, take, tell, text, void, word


class References(unittest.TestCase):
    def found(self, whole):
        """The labels that the text refers to; none of them is there."""
        pairs = all_broken([act(0), put(label="own", text=whole)])
        self.assertEqual([section for section, _ in pairs], ["own"] * len(pairs))
        return [reference for _, reference in pairs]

    def test_how_many_bytes_stand_between(self):
        for size in (0, 1, 2, 15, 16, 17, 18, 100):
            self.assertEqual(self.found("[" + "x" * size + "]"), ["x" * size] if 1 <= size <= 16 else [])

    def test_each_byte_between(self):
        for byte in range(32, 127):
            good = byte not in (32, 91, 93)
            self.assertEqual(self.found("[" + chr(byte) + "]"), [chr(byte)] if good else [])

    def test_a_blank_between(self):
        for whole in ("[a b]", "[ a]", "[a ]", "[ ]", "[xxxxxxxx xxxxxxx]"):
            self.assertEqual(self.found(whole), [])

    def test_without_the_other_bracket(self):
        for whole in ("[", "]", "[a", "a]", "][", "]a[", "[a [", "", "no brackets"):
            self.assertEqual(self.found(whole), [])

    def test_brackets_within_brackets(self):
        self.assertEqual(self.found("[a[b]c]"), ["b"])
        self.assertEqual(self.found("[[a]]"), ["a"])
        self.assertEqual(self.found("[[[a]"), ["a"])
        self.assertEqual(self.found("[a]]]b]"), ["a"])
        self.assertEqual(self.found("[a b[c]"), ["c"])
        self.assertEqual(self.found("[ [c] ]"), ["c"])
        self.assertEqual(self.found("[][a][]"), ["a"])

    def test_several_by_place(self):
        self.assertEqual(self.found("[c] and [a], [b] [a]"), ["c", "a", "b", "a"])

    def test_two_that_touch(self):
        self.assertEqual(self.found("[a][b][a]"), ["a", "b", "a"])

    def test_at_the_ends(self):
        self.assertEqual(self.found("[a]"), ["a"])
        self.assertEqual(self.found("[a] x [b]"), ["a", "b"])

    def test_behind_one_that_is_too_long(self):
        self.assertEqual(self.found("[" + "x" * 17 + "][a]"), ["a"])
        self.assertEqual(self.found("[" + "x" * 17 + "[a]"), ["a"])

    def test_many(self):
        self.assertEqual(self.found("[a]" * 341), ["a"] * 341)


class Broken(unittest.TestCase):
    TOLD = [act(0), put(label="c", text="[y] [c]"), put(label="b", text="none, but [a]"),
            put(label="a", text="[z][b][x] [z]")]

    def test_by_sections_order_then_by_place(self):
        self.assertEqual(all_broken(self.TOLD), [("a", "z"), ("a", "x"), ("a", "z"), ("c", "y")])

    def test_k(self):
        found = tell(self.TOLD, *[broken(k) for k in (0, 1, 2, 3, 4, 5, 1000, LAST_NUMBER)])
        self.assertEqual(found, [("a", "z"), ("a", "x"), ("a", "z"), ("c", "y"), None, None, None, None])

    def test_no_references(self):
        self.assertEqual(tell([act(0), put(text="none")], broken(0), broken(LAST_NUMBER)), [None, None])
        self.assertEqual(tell([act(0)], broken(0)), None)

    def test_to_its_own_label(self):
        self.assertEqual(all_broken([act(0), put(text="[a]")]), [])
        self.assertEqual(all_broken([act(0), put(text="[a]"), name(to="b")]), [("b", "a")])
        self.assertEqual(all_broken([act(0), put(text="[a]"), name(to="b", follow=1)]), [])

    def test_one_that_a_follow_makes(self):
        told = [act(0), put(label="b", text="[a]"), put(), name(to="c", follow=1)]
        self.assertEqual(all_broken(told), [])
        self.assertEqual(all_broken(told + [take(label="c")]), [("b", "c")])

    def test_one_that_a_word_makes(self):
        told = [act(0), put(text="(z)"), word(old="(", text="["), word(old=")", text="]")]
        self.assertEqual(all_broken(told), [("a", "z")])
        self.assertEqual(all_broken(told[:-1]), [])

    def test_a_label_that_begins_alike_is_another(self):
        told = [act(0), put(label="ab", text="[a] [abc] [ab] [AB]")]
        self.assertEqual(all_broken(told), [("ab", "a"), ("ab", "abc"), ("ab", "AB")])

    def test_a_section_of_another_law_does_not_mend_it(self):
        told = [act(0), put(text="[b]"), put(1, label="b", text="[a]")]
        self.assertEqual(all_broken(told), [("a", "b")])
        self.assertEqual(all_broken(told, law=1), [("b", "a")])
        self.assertEqual(all_broken(told, law=2), [])

    def test_by_day(self):
        told = [act(0), put(text="[b]"), put(label="b", begins=3, till=6), take(begins=9)]
        self.assertEqual([len(all_broken(told, on)) for on in (2, 3, 5, 6, 8, 9)], [1, 0, 0, 1, 1, 0])

    def test_as_known(self):
        told = [act(3), put(text="[b]"), act(5), put(label="b"), act(7), void(1)]
        self.assertEqual([len(all_broken(told, known=known)) for known in (2, 3, 4, 5, 6, 7)], [0, 1, 1, 0, 0, 1])

    def test_another_text(self):
        told = [act(0), put(text="[b]"), text(text="[c]", begins=4)]
        self.assertEqual([all_broken(told, on) for on in (3, 4)], [[("a", "b")], [("a", "c")]])

    def test_the_longest_labels(self):
        told = [act(0), put(label="s" * 16, text="[" + "r" * 16 + "]")]
        self.assertEqual(all_broken(told), [("s" * 16, "r" * 16)])


if __name__ == "__main__":
    unittest.main()
