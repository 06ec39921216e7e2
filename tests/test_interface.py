"""The interface: how calls and answers are written."""

import io
import unittest
from contextlib import redirect_stdout

from lawdays.book import answers, read_command
from lawdays.command import NAME, PUT, TAKE, TEXT, WORD
from lawdays.reader import Reader
from tests.lines import act, begin, flat, name, put, take, text, word

EVERY_CALL = [begin(), act(4), put(), take(), text(), word(), name(), act(3), put(law=64), begin(), take()]


class Answers(unittest.TestCase):
    def test_how_many_numbers_stands_before_each_answer(self):
        self.assertEqual(answers([0]), [1, 0])
        self.assertEqual(answers([0, 1, 7, 1, 6, 1, 9]), [1, 0, 1, 0, 1, -1, 1, 1])
        self.assertEqual(
            answers(flat(EVERY_CALL)),
            [1, 0, 1, 0, 1, 0, 1, 1, 1, 2, 1, 3, 1, 4, 1, -1, 1, -1, 1, 0, 1, -2],
        )

    def test_calls_written_out(self):
        calls = [
            0,
            1, 10,
            2, 3, 20, 30, 0, 1, 97, 2, 98, 99,
            3, 3, 20, 30, 1, 97,
            4, 3, 20, 30, 1, 97, 0,
            5, 3, 20, 30, 1, 97, 1, 98, 1, 99,
            6, 3, 1, 20, 30, 1, 97, 1, 98,
            6, 3, 2, 20, 30, 1, 97, 1, 98,
            6, 3, 0, 20, 20, 1, 97, 1, 98,
            2, 3, 20, 0, 1, 97, 1, 98, 0,
        ]
        self.assertEqual(answers(calls), [1, 0, 1, 0, 1, 0, 1, 1, 1, 2, 1, 3, 1, 4, 1, -1, 1, -1, 1, 5])

    def test_rows_that_look_like_calls_are_passed_over(self):
        found = answers(flat([begin(), act(4), take(label=[0, 1, 2, 3]), text(text=[0, 0, 0]), take()]))
        self.assertEqual(found, [1, 0, 1, 0, 1, -1, 1, -1, 1, 0])

    def test_refused_rows_are_passed_over_whole(self):
        for call in [put(after="x" * 40), put(label="x" * 40), put(text="x" * 1100), word(old="x" * 1100),
                     name(to="x" * 40), put(law=64, text="x" * 1024)]:
            self.assertEqual(answers(flat([begin(), act(4), call, take(), act(4)])), [1, 0, 1, 0, 1, -1, 1, 0, 1, 1])

    def test_the_list_is_the_same_afterwards(self):
        calls = flat(EVERY_CALL)
        before = list(calls)
        answers(calls)
        self.assertEqual(calls, before)

    def test_another_list_is_given_back(self):
        calls = [0]
        first = answers(calls)
        first.append(5)
        self.assertEqual(calls, [0])
        self.assertEqual(answers(calls), [1, 0])

    def test_nothing_is_kept_from_one_time_to_the_next(self):
        calls = flat(EVERY_CALL)
        self.assertEqual(answers(calls), answers(calls))
        answers([0, 1, 900])
        self.assertEqual(answers([0, 1, 5]), [1, 0, 1, 0])
        self.assertEqual(answers(flat([begin(), take()])), [1, 0, 1, -2])

    def test_whole_numbers_in_a_list(self):
        found = answers(flat(EVERY_CALL))
        self.assertIs(type(found), list)
        for number in found:
            self.assertIs(type(number), int)

    def test_the_longest_list_of_calls(self):
        calls = flat([begin(), act(1)] + [begin(), take()] * 999)
        self.assertEqual(answers(calls), [1, 0, 1, 0] + [1, 0, 1, -2] * 999)
        calls = flat([begin(), act(1)] + [put(text="x" * 1024)] * 29)
        self.assertEqual(answers(calls)[-2:], [1, 28])

    def test_nothing_is_printed(self):
        printed = io.StringIO()
        with redirect_stdout(printed):
            answers(flat(EVERY_CALL))
        self.assertEqual(printed.getvalue(), "")


class Read(unittest.TestCase):
    """Each part of a call is kept as the part that it is."""

    def read(self, call):
        reader = Reader(call + [99])
        command = read_command(reader.next_number(), reader)
        self.assertEqual(reader.next_number(), 99)
        self.assertFalse(reader.has_more())
        return (command.kind, command.law, command.follow, command.begins, command.till,
                command.after, command.label, command.old, command.to, command.text)

    def test_put(self):
        self.assertEqual(self.read(put(1, [2], [3, 3], [4, 4, 4], 5, 6)),
                         (PUT, 1, 0, 5, 6, [2], [3, 3], [], [], [4, 4, 4]))

    def test_take(self):
        self.assertEqual(self.read(take(1, [2, 2], 3, 4)), (TAKE, 1, 0, 3, 4, [], [2, 2], [], [], []))

    def test_text(self):
        self.assertEqual(self.read(text(1, [2, 2], [3], 4, 5)), (TEXT, 1, 0, 4, 5, [], [2, 2], [], [], [3]))

    def test_word(self):
        self.assertEqual(self.read(word(1, [2, 2], [3], [4, 4, 4], 5, 6)),
                         (WORD, 1, 0, 5, 6, [], [2, 2], [3], [], [4, 4, 4]))

    def test_name(self):
        self.assertEqual(self.read(name(1, [2, 2], [3], 4, 5, 6)), (NAME, 1, 4, 5, 6, [], [2, 2], [], [3], []))


if __name__ == "__main__":
    unittest.main()
