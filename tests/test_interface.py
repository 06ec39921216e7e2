"""The interface: how calls and answers are written."""

import io
import unittest
from contextlib import redirect_stdout

from lawdays.book import answers, read_command
from lawdays.command import NAME, PUT, TAKE, TEXT, WORD
from lawdays.reader import Reader
from tests.lines import (
    LAST_DAY, LAST_NUMBER, MOST_CALLS, MOST_NUMBERS, Untouchable, act, begin, broken, flat, idle, labels, name,
    next_day, origin, put, read, split, take, text, void, word,
)
from tests.long_texts import MOST, long_section

EVERY_CALL = [
    begin(), act(4), put(), take(), text(), word(), name(), act(3), put(law=64), void(1), void(9), read(), labels(),
    origin(), idle(), broken(), next_day(), read("z"), read(law=64), begin(), take(),
]


class Answers(unittest.TestCase):
    def test_how_many_numbers_stands_before_each_answer(self):
        self.assertEqual(answers([0]), [1, 0])
        self.assertEqual(answers([0, 1, 7, 1, 6, 1, 9]), [1, 0, 1, 0, 1, -1, 1, 1])
        self.assertEqual(
            answers(flat(EVERY_CALL)),
            [1, 0, 1, 0, 1, 0, 1, 1, 1, 2, 1, 3, 1, 4, 1, -1, 1, -1, 1, 5, 1, -1]
            + [1, -2, 4, 0, 1, 1, 98, 1, -2, 2, 0, 3, 1, 0, 1, 0, 1, -2, 1, -1, 1, 0, 1, -2],
        )

    def test_calls_written_out(self):
        calls = [
            0,
            1, 10,
            2, 3, 20, 30, 0, 1, 97, 2, 98, 99,
            3, 3, 20, 30, 1, 97,
            4, 3, 20, 30, 1, 97, 0,
            5, 3, 20, 30, 1, 97, 1, 98, 1, 99,
            6, 3, 1, 20, 30, 1, 97, 1, 98,
            6, 3, 2, 20, 30, 1, 97, 1, 98,
            6, 3, 0, 20, 20, 1, 97, 1, 98,
            2, 3, 20, 0, 1, 97, 1, 98, 0,
        ]
        self.assertEqual(answers(calls), [1, 0, 1, 0, 1, 0, 1, 1, 1, 2, 1, 3, 1, 4, 1, -1, 1, -1, 1, 5])

    def test_questions_written_out(self):
        # A put of "a" with "x[bc]y" into law 3 from day 20 till day 30, and a word that has no effect.
        told = [0, 1, 10, 2, 3, 20, 30, 0, 1, 97, 6, 120, 91, 98, 99, 93, 121, 5, 3, 25, 0, 1, 97, 1, 113, 0]
        asked = [
            ([8, 3, 20, 10, 1, 97], [7, 0, 120, 91, 98, 99, 93, 121]),
            ([9, 3, 20, 10], [4, 0, 1, 1, 97]),
            ([10, 3, 20, 10, 1, 97], [3, 0, 6, 0]),
            ([11, 24, 10], [1, 0]),
            ([11, 25, 10], [2, 0, 1]),
            ([12, 3, 20, 10, 0], [6, 1, 1, 97, 2, 98, 99]),
            ([12, 3, 20, 10, 1], [1, 0]),
            ([13, 3, 0, 10, 1, 97], [2, 1, 20]),
            ([13, 3, 20, 10, 1, 97], [2, 1, 30]),
            ([13, 3, 30, 10, 1, 97], [1, 0]),
            ([8, 3, 19, 10, 1, 97], [1, -2]),
            ([9, 3, 19, 10], [2, 0, 0]),
            ([10, 3, 19, 10, 1, 97], [1, -2]),
            ([7, 1], [1, 2]),
            ([7, 3], [1, -1]),
            ([11, 25, 10], [1, 0]),
            ([8, 64, 20, 10, 1, 97], [1, -1]),
            ([9, 3, 1048577, 10], [1, -1]),
            ([10, 3, 20, 1048577, 1, 97], [1, -1]),
            ([11, 4294967295, 0], [1, -1]),
            ([12, 64, 20, 10, 0], [1, -1]),
            ([13, 3, 20, 10, 0], [1, -1]),
            ([9, 3, 20, 9], [2, 0, 0]),
        ]
        calls = told + [number for question, _ in asked for number in question]
        self.assertEqual(answers(calls),
                         [1, 0, 1, 0, 1, 0, 1, 1] + [number for _, answer in asked for number in answer])

    def test_more_than_one_of_each_in_an_answer(self):
        told = [begin(), act(0), put(label="bb", text="[z]"), put(label="a", text="xy"), word(old="y", text="YY"),
                take(label="q"), take(label="r")]
        found = split(answers(flat(told + [labels(), origin(), idle(), broken()])))[len(told):]
        self.assertEqual(found, [[0, 2, 1, 97, 2, 98, 98], [0, 1, 1, 2, 2], [0, 3, 4], [1, 2, 98, 98, 1, 122]])

    def test_rows_that_look_like_calls_are_passed_over(self):
        found = answers(flat([begin(), act(4), take(label=[0, 1, 2, 3]), text(text=[0, 0, 0]), take()]))
        self.assertEqual(found, [1, 0, 1, 0, 1, -1, 1, -1, 1, 0])

    def test_refused_questions_are_passed_over_whole(self):
        for question in (read, origin, next_day):
            for call in (question("x" * 40), question([0, 1, 2]), question(""), question("x" * 17, law=64)):
                self.assertEqual(answers(flat([begin(), call, act(4)])), [1, 0, 1, -1, 1, 0])
        for call in (labels(law=64), idle(on=LAST_NUMBER), broken(LAST_NUMBER, law=64), void(LAST_NUMBER)):
            self.assertEqual(answers(flat([begin(), call, act(4)])), [1, 0, 1, -1, 1, 0])

    def test_refused_rows_are_passed_over_whole(self):
        for call in [put(after="x" * 40), put(label="x" * 40), put(text="x" * 1100), word(old="x" * 1100),
                     name(to="x" * 40), put(law=64, text="x" * 1024)]:
            self.assertEqual(answers(flat([begin(), act(4), call, take(), act(4)])), [1, 0, 1, 0, 1, -1, 1, 0, 1, 1])

    def test_the_list_is_the_same_afterwards(self):
        calls = flat(EVERY_CALL)
        before = list(calls)
        answers(calls)
        self.assertEqual(calls, before)

    def test_the_list_is_not_changed_for_a_while_either(self):
        told = long_section("a", MOST, begin_with="[a]") + [name(to="b", follow=0), name(label="b", to="a")]
        answers(Untouchable(flat([begin(), act(0)] + told + EVERY_CALL + [read(), origin(), idle(), labels()])))

    def test_another_list_is_given_back(self):
        calls = [0]
        first = answers(calls)
        first.append(5)
        self.assertEqual(calls, [0])
        self.assertEqual(answers(calls), [1, 0])

    def test_nothing_is_kept_from_one_time_to_the_next(self):
        calls = flat(EVERY_CALL)
        self.assertEqual(answers(calls), answers(calls))
        answers([0, 1, 900])
        self.assertEqual(answers([0, 1, 5]), [1, 0, 1, 0])
        self.assertEqual(answers(flat([begin(), take()])), [1, 0, 1, -2])

    def test_no_section_is_kept_from_one_time_to_the_next(self):
        first = flat([begin(), act(0), put(text="first"), read(), labels(), idle(), next_day()])
        second = flat([begin(), act(0), put(text="second", begins=5), read(), labels(5), idle(), next_day()])
        told = answers(first), answers(second)
        for _ in range(2):
            self.assertEqual(answers(first), told[0])
            self.assertEqual(answers(second), told[1])
        self.assertEqual(answers(flat([begin(), read(), labels(), idle()])), [1, 0, 1, -2, 2, 0, 0, 1, 0])

    def test_what_is_given_back_is_not_looked_at_again(self):
        calls = flat([begin(), act(0), put(text="text"), read()])
        first = answers(calls)
        for place in range(len(first)):
            first[place] = 0
        self.assertEqual(answers(calls), [1, 0, 1, 0, 1, 0, 5, 0, 116, 101, 120, 116])

    def test_whole_numbers_in_a_list(self):
        found = answers(flat(EVERY_CALL))
        self.assertIs(type(found), list)
        for number in found:
            self.assertIs(type(number), int)

    def test_the_longest_list_of_calls(self):
        calls = flat([begin(), act(1)] + [begin(), take()] * 999)
        self.assertEqual(answers(calls), [1, 0, 1, 0] + [1, 0, 1, -2] * 999)
        calls = flat([begin(), act(1)] + [put(text="x" * 1024)] * 29)
        self.assertEqual(answers(calls)[-2:], [1, 28])

    def test_the_most_calls_and_the_most_numbers(self):
        told = [begin(), act(0)] + [put(label=f"{number:016}") for number in range(64)]
        told += [read(f"{number % 64:016}") for number in range(1000)]
        told += [take(label="z")] * (MOST_CALLS - len(told))
        self.assertEqual(len(told), MOST_CALLS)
        found = split(answers(flat(told)))
        self.assertEqual(found[66:1066], [[0, 116]] * 1000)
        self.assertEqual(found[-1], [64 + MOST_CALLS - 1066 - 1])
        told = [begin(), act(0)] + [put(text="x" * 1024)] + [text(text="y" * 1024)] * 29
        told.append(text(text="z" * (MOST_NUMBERS - len(flat(told)) - 13)))
        calls = flat(told + [read()])
        self.assertEqual(len(calls), MOST_NUMBERS)
        self.assertEqual(split(answers(calls))[-1][:2], [0, 122])

    def test_the_longest_answers(self):
        told = [begin(), act(0)] + long_section("a", MOST)
        found = split(answers(flat(told + [read()] * 240)))
        self.assertEqual(found[len(told):], [[0] + [120] * (MOST - 1) + [33]] * 240)

    def test_a_full_record_on_many_days_as_known_on_many_days(self):
        told = [begin()]
        for number in range(320):
            told += [act(number), put(label=f"l{number % 70}", begins=1000 - number, till=1001 + number),
                     text(label=f"l{number % 60}", text=str(number), begins=number),
                     take(label=f"l{number % 50}", begins=3 * number, till=3 * number + 40)]
        questions = []
        for number in range(0, 100, 2):
            questions += [read(f"l{number}", 10 * number, 3 * number), labels(10 * number, 1000 - number),
                          idle(LAST_DAY - number), next_day(f"l{number}", 10 * number, 400 - number),
                          next_day("none", number, 5 * number)]
        found = split(answers(flat(told + questions)))
        self.assertEqual(len(found), len(told) + 250)
        # Asked alone each answer is the same as in the row of all.
        for place in range(0, 250, 23):
            alone = split(answers(flat(told + [questions[place]])))[-1]
            self.assertEqual(found[len(told) + place], alone)

    def test_nothing_is_printed(self):
        printed = io.StringIO()
        with redirect_stdout(printed):
            answers(flat(EVERY_CALL))
        self.assertEqual(printed.getvalue(), "")


class Read(unittest.TestCase):
    """Each part of a call is kept as the part that it is."""

    def read(self, call):
        reader = Reader(call + [99])
        command = read_command(reader.next_number(), reader)
        self.assertEqual(reader.next_number(), 99)
        self.assertFalse(reader.has_more())
        return (command.kind, command.law, command.follow, command.begins, command.till,
                command.after, command.label, command.old, command.to, command.text)

    def test_put(self):
        self.assertEqual(self.read(put(1, [2], [3, 3], [4, 4, 4], 5, 6)),
                         (PUT, 1, 0, 5, 6, [2], [3, 3], [], [], [4, 4, 4]))

    def test_take(self):
        self.assertEqual(self.read(take(1, [2, 2], 3, 4)), (TAKE, 1, 0, 3, 4, [], [2, 2], [], [], []))

    def test_text(self):
        self.assertEqual(self.read(text(1, [2, 2], [3], 4, 5)), (TEXT, 1, 0, 4, 5, [], [2, 2], [], [], [3]))

    def test_word(self):
        self.assertEqual(self.read(word(1, [2, 2], [3], [4, 4, 4], 5, 6)),
                         (WORD, 1, 0, 5, 6, [], [2, 2], [3], [], [4, 4, 4]))

    def test_name(self):
        self.assertEqual(self.read(name(1, [2, 2], [3], 4, 5, 6)), (NAME, 1, 4, 5, 6, [], [2, 2], [], [3], []))


if __name__ == "__main__":
    unittest.main()
