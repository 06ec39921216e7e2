"""Promise 2: put, take, text, word and name."""

import unittest

from lawdays.command import Command, PUT, TAKE
from lawdays.record import Record
from tests.lines import COMMANDS, act, ask_numbers, begin, name, put, take, text, word

LAST_DAY = 1048576
LAST_NUMBER = 4294967295

GOOD_LABELS = ["a", "!", "~", "a" * 16, "!" * 16, "Z\\^", [33], [126], [90], [92], [94]]
NO_BYTES = [""]
BAD_LABELS = [
    "a" * 17, "a" * 40, " ", "a b", "[", "]", "[a]", "a[", "a]", "a" * 15 + "]",
    [32], [127], [31], [0], [255], [91], [93], [97, 127], [127, 97], [97] * 15 + [32],
]
GOOD_TEXTS = ["t", " ", "~", "[a]", "t" * 1024, " " * 1024, [32], [126]]
BAD_TEXTS = [
    "t" * 1025, "t" * 1100, [31], [127], [0], [255], [10],
    [97, 31], [31, 97], [97] * 1023 + [127], [127] + [97] * 1023,
]

GOOD = {
    "law": [0, 1, 62, 63],
    "after": GOOD_LABELS + NO_BYTES,
    "label": GOOD_LABELS,
    "to": GOOD_LABELS,
    "text": GOOD_TEXTS + NO_BYTES,
    "old": GOOD_TEXTS,
    "follow": [0, 1],
    "begins": [0, 1, LAST_DAY - 1, LAST_DAY],
}
BAD = {
    "law": [64, 65, LAST_DAY, LAST_NUMBER],
    "after": BAD_LABELS,
    "label": BAD_LABELS + NO_BYTES,
    "to": BAD_LABELS + NO_BYTES,
    "text": BAD_TEXTS,
    "old": BAD_TEXTS + NO_BYTES,
    "follow": [2, 3, 255, LAST_NUMBER],
    "begins": [LAST_DAY + 1, LAST_DAY + 2, LAST_NUMBER],
}
FIELDS = {
    "put": ["law", "after", "label", "text", "begins"],
    "take": ["law", "label", "begins"],
    "text": ["law", "label", "text", "begins"],
    "word": ["law", "label", "old", "text", "begins"],
    "name": ["law", "label", "to", "follow", "begins"],
}
GOOD_SPANS = [
    (0, 0), (0, 1), (5, 0), (5, 6), (5, LAST_DAY), (LAST_DAY - 1, LAST_DAY), (LAST_DAY, 0), (0, LAST_DAY),
]
BAD_SPANS = [
    (1, 1), (5, 5), (5, 4), (5, 1), (LAST_DAY, LAST_DAY), (LAST_DAY, LAST_DAY - 1), (LAST_DAY, 1),
    (0, LAST_DAY + 1), (5, LAST_DAY + 1), (5, LAST_NUMBER), (LAST_DAY, LAST_DAY + 1), (LAST_DAY, LAST_NUMBER),
    (LAST_DAY + 1, 0), (LAST_DAY + 1, LAST_DAY + 2), (LAST_DAY + 1, LAST_DAY), (LAST_NUMBER, LAST_NUMBER),
]


def variants(values, spans):
    """Each command with one thing changed: what was changed, and the call."""
    found = []
    for kind, fields in FIELDS.items():
        for field in fields:
            for value in values[field]:
                found.append(((kind, field, value), COMMANDS[kind](**{field: value})))
        for begins, till in spans:
            found.append(((kind, begins, till), COMMANDS[kind](begins=begins, till=till)))
    return found


GOOD_CALLS = variants(GOOD, GOOD_SPANS)
BAD_CALLS = variants(BAD, BAD_SPANS)
ONE_OF_EACH = [put(), take(), text(), word(), name()]


class Numbers(unittest.TestCase):
    def test_run_from_0_on_over_all_kinds(self):
        self.assertEqual(ask_numbers(act(0), *ONE_OF_EACH, *ONE_OF_EACH), [0] + list(range(10)))

    def test_run_on_over_all_acts(self):
        found = ask_numbers(act(7), put(), take(), act(7), text(), act(9), act(9), word(), name())
        self.assertEqual(found, [0, 0, 1, 1, 2, 2, 3, 3, 4])

    def test_the_same_command_again_is_one_more(self):
        self.assertEqual(ask_numbers(act(7), put(), put(), take(), take()), [0, 0, 1, 2, 3])

    def test_a_command_may_begin_before_or_behind_its_act(self):
        self.assertEqual(ask_numbers(act(100), put(begins=1), put(begins=200), put(begins=1, till=2)), [0, 0, 1, 2])

    def test_a_command_that_will_have_no_effect_is_numbered_too(self):
        self.assertEqual(ask_numbers(act(1), take(label="none"), name(label="a", to="a")), [0, 0, 1])


class Good(unittest.TestCase):
    def test_each_good_value_is_taken(self):
        for what, call in GOOD_CALLS:
            with self.subTest(what):
                self.assertEqual(ask_numbers(act(0), call, take()), [0, 0, 1])

    def test_the_longest_of_all_at_once(self):
        long = "x" * 1024
        label = "y" * 16
        found = ask_numbers(
            act(LAST_DAY),
            put(63, label, label, long, LAST_DAY - 1, LAST_DAY),
            take(63, label, LAST_DAY - 1, LAST_DAY),
            text(63, label, long, LAST_DAY - 1, LAST_DAY),
            word(63, label, long, long, LAST_DAY - 1, LAST_DAY),
            name(63, label, label, 1, LAST_DAY - 1, LAST_DAY),
        )
        self.assertEqual(found, [0, 0, 1, 2, 3, 4])

    def test_each_byte_of_a_label(self):
        for byte in range(256):
            good = 33 <= byte <= 126 and byte not in (91, 93)
            calls = [put(after=[byte]), put(label=[byte]), take(label=[byte]), text(label=[byte]),
                     word(label=[byte]), name(label=[byte]), name(to=[byte])]
            with self.subTest(byte):
                self.assertEqual(ask_numbers(act(0), *calls)[1:], list(range(7)) if good else [-1] * 7)

    def test_each_byte_of_a_text(self):
        for byte in range(256):
            good = 32 <= byte <= 126
            calls = [put(text=[byte]), text(text=[byte]), word(text=[byte]), word(old=[byte])]
            with self.subTest(byte):
                self.assertEqual(ask_numbers(act(0), *calls)[1:], list(range(4)) if good else [-1] * 4)

    def test_each_length_of_a_label(self):
        for size in range(41):
            good = 1 <= size <= 16
            calls = [put(label="x" * size), take(label="x" * size), text(label="x" * size),
                     word(label="x" * size), name(label="x" * size), name(to="x" * size)]
            with self.subTest(size):
                self.assertEqual(ask_numbers(act(0), *calls)[1:], list(range(6)) if good else [-1] * 6)
                self.assertEqual(ask_numbers(act(0), put(after="x" * size)), [0, 0 if size <= 16 else -1])


class Refused(unittest.TestCase):
    def test_each_bad_value_is_refused_and_changes_nothing(self):
        for what, call in BAD_CALLS:
            with self.subTest(what):
                found = ask_numbers(act(4), take(), call, take(), act(3), act(4))
                self.assertEqual(found, [0, 0, -1, 1, -1, 1])

    def test_several_bad_values_are_refused_once(self):
        calls = [put(64, "[", "", [31], 5, 5), take(64, "", 5, 4), text(64, "", [127], LAST_NUMBER, 1),
                 word(64, "", "", [127], 5, 5), name(64, "", "", 2, 5, 5)]
        self.assertEqual(ask_numbers(act(4), *calls, take()), [0, -1, -1, -1, -1, -1, 0])

    def test_without_an_act(self):
        self.assertEqual(ask_numbers(*ONE_OF_EACH), [-2] * 5)

    def test_without_an_act_since_begin(self):
        self.assertEqual(ask_numbers(act(4), put(), begin(), *ONE_OF_EACH), [0, 0, 0] + [-2] * 5)

    def test_without_an_act_nothing_is_numbered(self):
        self.assertEqual(ask_numbers(*ONE_OF_EACH, act(4), put(), act(4)), [-2] * 5 + [0, 0, 1])

    def test_a_bad_value_is_told_before_that_there_is_no_act(self):
        for what, call in BAD_CALLS:
            with self.subTest(what):
                self.assertEqual(ask_numbers(call), [-1])

    def test_a_good_value_without_an_act(self):
        for what, call in GOOD_CALLS:
            with self.subTest(what):
                self.assertEqual(ask_numbers(call), [-2])


class Full(unittest.TestCase):
    def test_there_are_1024_at_most(self):
        for last in ONE_OF_EACH:
            found = ask_numbers(act(4), *[take()] * 1023, last, *ONE_OF_EACH)
            self.assertEqual(found, [0] + list(range(1024)) + [-28] * 5)

    def test_1024_over_all_acts(self):
        found = ask_numbers(act(4), *[take()] * 1000, act(5), *[take()] * 25, act(5), take())
        self.assertEqual(found[1001:], [1] + list(range(1000, 1024)) + [-28, 2, -28])

    def test_refused_ones_do_not_fill_the_room(self):
        found = ask_numbers(act(4), *[take(law=64)] * 900, *[take()] * 1025)
        self.assertEqual(found[901:], list(range(1024)) + [-28])

    def test_a_bad_value_is_told_before_too_many(self):
        short = [(what, call) for what, call in BAD_CALLS if len(call) < 100]
        found = ask_numbers(act(4), *[take()] * 1024, *[call for _, call in short])
        for (what, _), answer in zip(short, found[1025:], strict=True):
            with self.subTest(what):
                self.assertEqual(answer, -1)

    def test_a_long_text_is_told_before_too_many(self):
        calls = [put(text="t" * 1025), text(text="t" * 1025), word(text="t" * 1025), word(old="t" * 1025)]
        found = ask_numbers(act(4), *[take()] * 1024, *calls)
        self.assertEqual(found[1025:], [-1] * 4)

    def test_acts_go_on_when_there_is_no_room_for_commands(self):
        found = ask_numbers(act(4), *[take()] * 1025, act(4), act(3), act(5))
        self.assertEqual(found[1025:], [-28, 1, -1, 2])

    def test_commands_go_on_when_there_is_no_room_for_acts(self):
        found = ask_numbers(*[act(4)] * 513, take(), put())
        self.assertEqual(found[512:], [-28, 0, 1])


class Kept(unittest.TestCase):
    def recorded(self, kind):
        command = Command(kind)
        command.label = [97]
        return command

    def test_a_command_belongs_to_the_last_act(self):
        record = Record()
        record.add_act(3)
        record.add_act(3)
        record.add_command(self.recorded(PUT))
        record.add_act(8)
        record.add_command(self.recorded(TAKE))
        self.assertEqual([command.act for command in record.commands], [1, 2])
        self.assertEqual([command.kind for command in record.commands], [PUT, TAKE])
        self.assertEqual(record.days, [3, 3, 8])

    def test_what_is_refused_is_not_kept(self):
        record = Record()
        record.add_command(self.recorded(PUT))
        record.add_act(3)
        record.add_act(2)
        record.add_command(Command(PUT))
        self.assertEqual(record.commands, [])
        self.assertEqual(record.days, [3])


if __name__ == "__main__":
    unittest.main()
