"""What stands: what put, take, text, word and name do, and when each has no effect."""

import unittest

from tests.lines import act, broken, idle, labels, name, origin, put, read, sections, take, tell, text, word
from tests.long_texts import MOST, long_section


class Effects(unittest.TestCase):
    def behind(self, told, change):
        """The sections behind the change, which has an effect."""
        number = len(told)
        self.assertNotIn(number, tell([act(0)] + told + [change], idle()))
        return sections([act(0)] + told + [change])

    def assert_no_effect(self, told, change):
        """The change is idle, and nothing is another than without it."""
        before = [act(0)] + told
        with_it = before + [change]
        self.assertEqual(tell(with_it, idle()), tell(before, idle()) + [len(told)])
        self.assertEqual(sections(with_it), sections(before))
        for label, _ in sections(before):
            self.assertEqual(tell(with_it, origin(label)), tell(before, origin(label)))


class Put(Effects):
    ABC = [put(label="c", text="3"), put(label="b", text="2"), put(label="a", text="1")]

    def test_into_a_law_of_no_sections(self):
        self.assertEqual(self.behind([], put(label="a", text="hi")), [("a", "hi")])

    def test_in_front_of_all(self):
        self.assertEqual([label for label, _ in self.behind(self.ABC, put(label="d"))], ["d", "a", "b", "c"])

    def test_right_behind_each(self):
        for after, order in (("a", "adbc"), ("b", "abdc"), ("c", "abcd")):
            self.assertEqual([label for label, _ in self.behind(self.ABC, put(after=after, label="d"))], list(order))

    def test_a_text_of_no_bytes_and_the_longest(self):
        self.assertEqual(self.behind([], put(text="")), [("a", "")])
        self.assertEqual(self.behind([], put(text="x" * 1024)), [("a", "x" * 1024)])

    def test_each_sign_of_a_text(self):
        every = "".join(chr(byte) for byte in range(32, 127))
        self.assertEqual(self.behind([], put(text=every)), [("a", every)])

    def test_a_label_that_is_there(self):
        self.assert_no_effect([put()], put(text="other"))
        self.assert_no_effect(self.ABC, put(label="b", text="other"))
        self.assert_no_effect(self.ABC, put(after="c", label="a", text="other"))

    def test_an_after_that_is_not_there(self):
        self.assert_no_effect([], put(after="z", label="a"))
        self.assert_no_effect(self.ABC, put(after="z", label="d"))

    def test_behind_itself(self):
        self.assert_no_effect([], put(after="a", label="a"))
        self.assert_no_effect([put()], put(after="a", label="a"))

    def test_labels_that_begin_alike_are_others(self):
        self.assertEqual(self.behind([put(label="ab")], put(label="a")), [("a", "t"), ("ab", "t")])
        self.assert_no_effect([put(label="ab")], put(after="a", label="c"))

    def test_a_label_that_went_may_come_again(self):
        self.assertEqual(self.behind([put(text="1"), take()], put(text="2")), [("a", "2")])
        self.assertEqual(self.behind([put(text="1"), name(to="b")], put(text="2")), [("a", "2"), ("b", "1")])

    def test_the_64th_and_the_65th_section(self):
        told = [put(label=f"l{number}") for number in range(63)]
        self.assertEqual(len(self.behind(told, put(label="last"))), 64)
        told.append(put(label="last"))
        self.assert_no_effect(told, put(label="more"))
        self.assert_no_effect(told, put(after="l0", label="more"))
        self.assertEqual(len(self.behind(told + [take(label="l5")], put(label="more"))), 64)

    def test_64_sections_of_another_law(self):
        told = [put(7, "", f"l{number}") for number in range(64)]
        self.assertEqual(self.behind(told, put()), [("a", "t")])


class Take(Effects):
    def test_the_first_one_between_and_the_last(self):
        for label, left in (("a", "bc"), ("b", "ac"), ("c", "ab")):
            found = self.behind(Put.ABC, take(label=label))
            self.assertEqual([label for label, _ in found], list(left))

    def test_the_only_one(self):
        self.assertEqual(self.behind([put()], take()), [])

    def test_references_to_it_stay(self):
        self.assertEqual(self.behind([put(), put(label="b", text="[a]")], take()), [("b", "[a]")])

    def test_one_that_is_not_there(self):
        self.assert_no_effect([], take())
        self.assert_no_effect(Put.ABC, take(label="z"))
        self.assert_no_effect([put(), take()], take())
        self.assert_no_effect([put(law=1)], take())


class Text(Effects):
    def test_another_text(self):
        self.assertEqual(self.behind(Put.ABC, text(label="b", text="two")), [("a", "1"), ("b", "two"), ("c", "3")])

    def test_no_bytes_and_the_longest(self):
        self.assertEqual(self.behind([put()], text(text="")), [("a", "")])
        self.assertEqual(self.behind([put()], text(text="y" * 1024)), [("a", "y" * 1024)])

    def test_in_the_stead_of_a_longer_one(self):
        self.assertEqual(self.behind(long_section("a", MOST), text(text="u")), [("a", "u")])

    def test_the_same_text_has_an_effect(self):
        self.assertEqual(self.behind([put(text="t")], text(text="t")), [("a", "t")])

    def test_one_that_is_not_there(self):
        self.assert_no_effect([], text())
        self.assert_no_effect(Put.ABC, text(label="z", text="u"))
        self.assert_no_effect([put(law=1)], text(text="u"))


class Word(Effects):
    def test_at_one_place(self):
        for old, new, whole in (
            ("one", "1", "1 two three"), ("two", "2", "one 2 three"), ("three", "3", "one two 3"),
            ("one two three", "all", "all"), (" t", "-", None), ("w", "WWWW", "one tWWWWo three"),
            (" two", "", "one three"), ("one two three", "", ""), ("two", "two", "one two three"),
            ("two", "two two", "one two two three"), ("e ", "[e]", "on[e]two three"),
        ):
            told = [put(text="one two three"), put(label="b", text="one two three")]
            change = word(old=old, text=new)
            with self.subTest(old):
                if whole is None:
                    self.assert_no_effect(told, change)
                else:
                    self.assertEqual(self.behind(told, change), [("b", "one two three"), ("a", whole)])

    def test_at_no_place(self):
        for whole in ("", "x", "ol", "o ld", "OLD", "dlo"):
            self.assert_no_effect([put(text=whole)], word(old="old"))

    def test_an_old_that_is_longer_than_the_text(self):
        self.assert_no_effect([put(text="ab")], word(old="abc"))
        self.assert_no_effect([put(text="")], word(old="a"))

    def test_at_two_places(self):
        self.assert_no_effect([put(text="old and old")], word(old="old"))
        self.assert_no_effect([put(text="oldold")], word(old="old"))

    def test_at_two_that_overlap(self):
        self.assert_no_effect([put(text="xx xyx xyxyx")], word(old="xyx"))
        self.assert_no_effect([put(text="aaa")], word(old="aa"))
        self.assertEqual(self.behind([put(text="aa")], word(old="aa", text="b")), [("a", "b")])

    def test_one_whole_place_and_a_part(self):
        self.assertEqual(self.behind([put(text="xyxy")], word(old="xyxy", text="b")), [("a", "b")])
        self.assertEqual(self.behind([put(text="xyx xy")], word(old="xyx", text="b")), [("a", "b xy")])

    def test_what_comes_is_not_looked_at_again(self):
        self.assertEqual(self.behind([put(text="x")], word(old="x", text="xxx")), [("a", "xxx")])

    def test_in_another_section_it_does_not_matter(self):
        told = [put(label="b", text="old old"), put(label="a", text="old")]
        self.assertEqual(self.behind(told, word(old="old", text="new")), [("a", "new"), ("b", "old old")])
        self.assert_no_effect([put(label="b", text="old"), put(label="a", text="none")], word(old="old"))

    def test_one_that_is_not_there(self):
        self.assert_no_effect([], word())
        self.assert_no_effect([put(text="o")], word(label="z", old="o"))
        self.assert_no_effect([put(law=1, text="o")], word(old="o"))

    def test_a_text_of_4096_and_of_4097_bytes_by_it(self):
        told = long_section("a", MOST - 2)
        (found,) = self.behind(told, word(old="!", text="123"))
        self.assertEqual(found, ("a", "x" * (MOST - 3) + "123"))
        self.assert_no_effect(told, word(old="!", text="1234"))

    def test_a_text_of_4096_bytes_may_be_changed(self):
        told = long_section("a", MOST)
        self.assertEqual(self.behind(told, word(old="!", text="?")), [("a", "x" * (MOST - 1) + "?")])
        self.assertEqual(self.behind(told, word(old="!", text="")), [("a", "x" * (MOST - 1))])
        self.assert_no_effect(told, word(old="!", text="??"))

    def test_the_longest_old_and_text(self):
        told = [put(text="x" * 1024)]
        self.assertEqual(self.behind(told, word(old="x" * 1024, text="y" * 1024)), [("a", "y" * 1024)])
        self.assert_no_effect(told, word(old="x" * 1023, text="y"))


class Name(Effects):
    def test_another_label(self):
        for follow in (0, 1):
            found = self.behind(Put.ABC, name(label="b", to="d", follow=follow))
            self.assertEqual(found, [("a", "1"), ("d", "2"), ("c", "3")])

    def test_none_with_the_label(self):
        for follow in (0, 1):
            self.assert_no_effect([], name(follow=follow))
            self.assert_no_effect(Put.ABC, name(label="z", to="d", follow=follow))
            self.assert_no_effect([put(law=1)], name(follow=follow))

    def test_one_with_the_label_to(self):
        for follow in (0, 1):
            told = [put(label="b", text="[a]"), put(label="a", text="[a]")]
            self.assert_no_effect(told, name(label="a", to="b", follow=follow))

    def test_to_the_same_label(self):
        for follow in (0, 1):
            self.assert_no_effect([put(text="[a]")], name(label="a", to="a", follow=follow))

    def test_a_label_of_another_law_does_not_matter(self):
        self.assertEqual(self.behind([put(1, label="b"), put()], name(to="b")), [("b", "t")])

    def test_without_follow_texts_stay(self):
        told = [put(label="b", text="see [a]"), put(label="a", text="this is [a]")]
        self.assertEqual(self.behind(told, name(to="c", follow=0)), [("c", "this is [a]"), ("b", "see [a]")])

    def test_with_follow_each_reference_becomes_another(self):
        told = [put(label="b", text="see [a], [a] and [b]"), put(label="a", text="[a] [ab] [A]"),
                put(law=1, label="a", text="[a]")]
        found = self.behind(told, name(to="new", follow=1))
        self.assertEqual(found, [("new", "[new] [ab] [A]"), ("b", "see [new], [new] and [b]")])
        self.assertEqual(sections([act(0)] + told + [name(to="new", follow=1)], law=1), [("a", "[a]")])

    def test_with_follow_what_is_no_reference_stays(self):
        whole = "a [a [ a] [a ] a] (a) [[a] [a]] [aa]"
        told = [put(label="b", text=whole), put()]
        self.assertEqual(self.behind(told, name(to="c", follow=1))[1], ("b", "a [a [ a] [a ] a] (a) [[c] [c]] [aa]"))

    def test_with_follow_two_that_touch(self):
        self.assertEqual(self.behind([put(text="[a][a]")], name(to="bcd", follow=1)), [("bcd", "[bcd][bcd]")])

    def test_with_follow_to_a_shorter_label(self):
        told = [put(label="sixteen-bytes-16", text="[sixteen-bytes-16]x[sixteen-bytes-16]")]
        found = self.behind(told, name(label="sixteen-bytes-16", to="s", follow=1))
        self.assertEqual(found, [("s", "[s]x[s]")])

    def test_with_follow_references_to_the_new_label_stay(self):
        told = [put(label="b", text="[c] [a]"), put()]
        self.assertEqual(self.behind(told, name(to="c", follow=1))[1], ("b", "[c] [c]"))
        # What it had made is not told apart later from what was there.
        self.assertEqual(self.behind(told + [name(to="c", follow=1)], name(label="c", to="d", follow=1))[1],
                         ("b", "[d] [d]"))

    def test_with_follow_there_and_back(self):
        told = [put(label="b", text="[a] [c]"), put(), name(to="z", follow=1)]
        self.assertEqual(self.behind(told, name(label="z", to="a", follow=1)), [("a", "t"), ("b", "[a] [c]")])

    def test_4096_and_4097_bytes_in_the_section_itself(self):
        told = long_section("a", MOST - 1, begin_with="[a]")
        self.assertEqual(self.behind(told, name(to="bb", follow=1))[0][1][:6], "[bb]xx")
        self.assertEqual(len(self.behind(told, name(to="bb", follow=1))[0][1]), MOST)
        self.assert_no_effect(told, name(to="ccc", follow=1))

    def test_4096_and_4097_bytes_in_another_one(self):
        for order in (1, -1):
            told = (long_section("b", MOST - 1, begin_with="[a]"), [put(text="[a]")])[::order]
            told = told[0] + told[1]
            found = dict(self.behind(told, name(to="bb", follow=1)))
            self.assertEqual((found["bb"], len(found["b"])), ("[bb]", MOST))
            self.assert_no_effect(told, name(to="ccc", follow=1))

    def test_two_references_in_a_long_text(self):
        told = long_section("b", MOST - 2, begin_with="[a][a]") + [put()]
        self.assertEqual(len(dict(self.behind(told, name(to="bb", follow=1)))["b"]), MOST)
        told = long_section("b", MOST - 1, begin_with="[a][a]") + [put()]
        self.assert_no_effect(told, name(to="bb", follow=1))

    def test_a_text_of_4096_bytes_without_a_reference_does_not_matter(self):
        told = long_section("a", MOST)
        self.assertEqual(self.behind(told, name(to="sixteen-bytes-16", follow=1))[0][0], "sixteen-bytes-16")

    def test_without_follow_the_length_does_not_matter(self):
        told = long_section("a", MOST, begin_with="[a]")
        self.assertEqual(self.behind(told, name(to="bb", follow=0))[0][0], "bb")
        self.assert_no_effect(told, name(to="bb", follow=1))

    def test_a_long_text_of_another_law_does_not_matter(self):
        told = long_section("b", MOST, law=1, begin_with="[a]") + [put(text="[a]")]
        self.assertEqual(self.behind(told, name(to="bb", follow=1)), [("bb", "[bb]")])

    def test_a_shorter_label_in_a_text_of_4096_bytes(self):
        told = long_section("bb", MOST, begin_with="[bb]")
        found = self.behind(told, name(label="bb", to="a", follow=1))
        self.assertEqual((found[0][0], len(found[0][1])), ("a", MOST - 1))


class NoEffect(unittest.TestCase):
    def test_it_does_what_it_says_as_soon_as_it_can(self):
        told = [act(0), text(text="u", begins=3), put(begins=2, till=5), put(text="again", begins=1, till=4)]
        # From day 1 to 4 the one section stands, on day 4 the other, whose text is changed all the same.
        self.assertEqual([tell(told, read(on=on)) for on in range(6)], [-2, "again", "again", "u", "u", -2])
        self.assertEqual([tell(told, idle(on)) for on in range(6)], [[], [], [1], [1], [], [0]])

    def test_what_comes_behind_it_is_done(self):
        told = [act(0), put(), put(text="none"), text(text="u"), take(label="z"), put(label="b", after="a")]
        self.assertEqual(sections(told), [("a", "u"), ("b", "t")])

    def test_it_changes_no_broken_reference(self):
        told = [act(0), put(text="[z]"), put(after="y", label="z"), name(label="y", to="z", follow=1)]
        self.assertEqual(tell(told, broken(), labels()), [("a", "z"), ["a"]])


if __name__ == "__main__":
    unittest.main()
