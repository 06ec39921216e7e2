"""Promise 2: void; and what it makes void, as known on a day."""

import unittest

from tests.lines import (
    LAST_DAY, LAST_NUMBER, act, ask, ask_numbers, begin, idle, labels, name, put, read, sections, take, tell, text,
    void, word,
)


class Numbers(unittest.TestCase):
    def test_a_void_is_numbered_as_all_commands_are(self):
        self.assertEqual(ask_numbers(act(3), put(), void(0), take(), void(2), act(3), void(0)), [0, 0, 1, 2, 3, 1, 4])

    def test_of_the_first_and_the_last_command(self):
        self.assertEqual(ask_numbers(act(3), put(), take(), void(1), void(0), void(3)), [0, 0, 1, 2, 3, 4])

    def test_of_a_void_and_of_one_that_is_void_already(self):
        self.assertEqual(ask_numbers(act(3), put(), void(0), void(0), void(1), void(1), void(4)), [0, 0, 1, 2, 3, 4, 5])

    def test_of_each_kind(self):
        told = [put(), take(), text(), word(), name(), void(0)]
        found = ask_numbers(act(3), *told, *[void(number) for number in range(6)])
        self.assertEqual(found, [0] + list(range(12)))


class Refused(unittest.TestCase):
    def test_a_number_that_no_command_has(self):
        for number in (1, 2, 1023, 1024, LAST_DAY, LAST_NUMBER):
            with self.subTest(number):
                self.assertEqual(ask_numbers(act(3), put(), void(number), take()), [0, 0, -1, 1])

    def test_its_own_number(self):
        self.assertEqual(ask_numbers(act(3), void(0), put(), void(1), void(0), void(2)), [0, -1, 0, -1, 1, -1])

    def test_without_an_act_there_is_no_such_command(self):
        self.assertEqual(ask_numbers(void(0), void(LAST_NUMBER), act(0), void(0)), [-1, -1, 0, -1])

    def test_since_begin_there_is_no_such_command(self):
        self.assertEqual(ask_numbers(act(3), put(), begin(), void(0), act(3), void(0)), [0, 0, 0, -1, 0, -1])

    def test_the_number_of_a_refused_command(self):
        self.assertEqual(ask_numbers(act(3), put(), put(law=64), void(1), void(0)), [0, 0, -1, -1, 1])

    def test_of_1024_commands(self):
        found = ask_numbers(act(3), *[take()] * 1023, void(1022), void(1023), void(0), take())
        self.assertEqual(found[1023:], [1022, 1023, -28, -28, -28])

    def test_no_such_command_is_told_before_too_many(self):
        found = ask_numbers(act(3), *[take()] * 1024, void(1024), void(LAST_NUMBER), void(1023), void(0))
        self.assertEqual(found[1025:], [-1, -1, -28, -28])

    def test_voids_fill_the_room(self):
        found = ask_numbers(act(3), put(), *[void(0)] * 1024, put())
        self.assertEqual(found[1024:], [1023, -28, -28])

    def test_a_refused_one_changes_nothing(self):
        full = [act(0), put(label="a", text="t")] + [take(label="z")] * 1023
        self.assertEqual(tell(full + [void(0), void(1024)], read()), "t")
        self.assertEqual(sections([act(0), put(), void(1), void(LAST_NUMBER)]), [("a", "t")])


class Void(unittest.TestCase):
    def test_a_command_of_each_kind(self):
        told = [act(0), put(label="a", text="xyz"), put(label="b", text="[a]")]
        changes = {
            "put": put(label="c"), "take": take(), "text": text(text="other"), "word": word(old="y", text="Y"),
            "name": name(to="d", follow=1), "void": void(1),
        }
        plain = sections(told)
        for kind, change in changes.items():
            with self.subTest(kind):
                self.assertNotEqual(sections(told + [change]), plain)
                self.assertEqual(sections(told + [change, void(2)]), plain)

    def test_on_each_day(self):
        told = [act(0), put(begins=5, till=20), void(0)]
        for on in (0, 4, 5, 19, 20, LAST_DAY):
            self.assertEqual(sections(told, on), [])

    def test_what_comes_behind_stands_on_what_is_left(self):
        told = [act(0), put(label="a"), put(label="b", after="a"), put(label="c", after="b")]
        self.assertEqual(tell(told, labels()), ["a", "b", "c"])
        self.assertEqual(tell(told + [void(1)], labels(), idle()), [["a"], [2]])
        self.assertEqual(tell(told + [void(0)], labels(), idle()), [[], [1, 2]])
        self.assertEqual(tell(told + [void(2)], labels(), idle()), [["a", "b"], []])

    def test_a_void_that_is_void_itself(self):
        told = [act(0), put()]
        for depth in range(8):
            # 0 voids the put, each further one the one before it.
            told.append(void(depth))
            with self.subTest(depth):
                self.assertEqual(sections(told), [] if depth % 2 == 0 else [("a", "t")])

    def test_two_voids_of_one_command(self):
        told = [act(0), put(), void(0), void(0)]
        self.assertEqual(sections(told + [void(1)]), [])
        self.assertEqual(sections(told + [void(2)]), [])
        self.assertEqual(sections(told + [void(1), void(2)]), [("a", "t")])
        self.assertEqual(sections(told + [void(1), void(2), void(3)]), [])
        self.assertEqual(sections(told + [void(1), void(2), void(3), void(3)]), [])
        self.assertEqual(sections(told + [void(1), void(2), void(3), void(5)]), [("a", "t")])

    def test_a_void_that_is_void_may_be_followed_by_another(self):
        told = [act(0), put(), void(0), void(1), void(0)]
        self.assertEqual(sections(told), [])
        self.assertEqual(sections(told + [void(3)]), [("a", "t")])

    def test_of_the_last_command_with_1024_commands(self):
        told = [act(0)] + [take(label="z")] * 1022 + [put(), void(1022)]
        self.assertEqual(tell(told[:-1], read()), "t")
        self.assertEqual(tell(told, read()), -2)

    def test_a_long_chain(self):
        chain = [act(0), put()] + [void(number) for number in range(1023)]
        self.assertEqual(tell(chain, read()), -2)
        self.assertEqual(tell(chain[:-1], read()), "t")

    def test_a_void_is_never_idle(self):
        told = [act(0), put(), take(label="z"), void(1), void(1), void(2)]
        self.assertEqual(tell(told, idle()), [])


class KnownLater(unittest.TestCase):
    def test_a_void_made_known_later(self):
        told = [act(10), put(), act(20), void(0)]
        self.assertEqual([tell(told, read(known=known)) for known in (9, 10, 19, 20, LAST_DAY)], [-2, "t", "t", -2, -2])

    def test_for_all_days_it_is_void_once_it_is_known(self):
        told = [act(10), put(begins=3), act(20), void(0)]
        for on in (3, 15, 19, 20, 500):
            self.assertEqual(tell(told, read(on=on, known=19), read(on=on, known=20)), ["t", -2])

    def test_a_void_of_a_void_made_known_later(self):
        told = [act(10), put(), act(20), void(0), act(30), void(1), act(40), void(2)]
        found = [tell(told, read(known=known)) for known in (10, 19, 20, 29, 30, 39, 40)]
        self.assertEqual(found, ["t", "t", -2, -2, "t", "t", -2])

    def test_a_void_of_a_void_that_counts_for_nothing_yet(self):
        # As known on day 20 both voids are there; the put begins on day 50 only.
        told = [act(10), put(begins=50), void(0), act(20), void(1)]
        self.assertEqual(tell(told, read(on=50, known=10), read(on=49, known=20), read(on=50, known=20)), [-2, -2, "t"])

    def test_in_one_act_or_in_two_of_one_day(self):
        self.assertEqual(sections([act(10), put(), void(0)], known=10), [])
        self.assertEqual(sections([act(10), put(), act(10), void(0)], known=10), [])
        self.assertEqual(sections([act(10), put(), act(10), void(0), act(10), void(1)], known=10), [("a", "t")])

    def test_asked_between_as_the_calls_come(self):
        found = ask(act(10), put(), read(), void(0), read(), void(1), read())
        self.assertEqual([found[2], found[4], found[6]], [[0, 116], [-2], [0, 116]])


if __name__ == "__main__":
    unittest.main()
