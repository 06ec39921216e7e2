"""Promise 3: what read, labels, origin, idle, broken and next refuse; the -2 of points 4 and 5."""

import unittest

from tests.lines import (
    LAST_DAY, LAST_NUMBER, act, ask, ask_numbers, begin, broken, idle, labels, next_day, origin, put, read, take, void,
)

WITH_LABEL = {"read": read, "origin": origin, "next": next_day}
OF_LAW = {**WITH_LABEL, "labels": labels, "broken": broken}
ALL = {**OF_LAW, "idle": idle}

BAD_LABELS = ["", "x" * 17, "x" * 40, " ", "a b", "a ", "[", "]", "[a]", "a]", [32], [127], [31], [0], [255], [97, 0],
              [97] * 15 + [127]]
BAD_DAYS = [LAST_DAY + 1, LAST_DAY + 2, LAST_NUMBER]
BAD_LAWS = [64, 65, 127, LAST_NUMBER]

TOLD = [act(0), put(text="[z]"), put(63, "", "a", "[z]")]


class Wrong(unittest.TestCase):
    def assert_refused(self, question, what):
        with self.subTest(what):
            self.assertEqual(ask(*TOLD, question)[-1], [-1])
            # Without acts it is wrong all the same.
            self.assertEqual(ask(question)[-1], [-1])

    def assert_taken(self, question, what):
        with self.subTest(what):
            self.assertNotEqual(ask(*TOLD, question)[-1], [-1])
            self.assertNotEqual(ask(question)[-1], [-1])

    def test_law_63_and_64(self):
        for kind, question in OF_LAW.items():
            for law in (0, 1, 62, 63):
                self.assert_taken(question(law=law), (kind, law))
            for law in BAD_LAWS:
                self.assert_refused(question(law=law), (kind, law))

    def test_a_label_that_is_none(self):
        for kind, question in WITH_LABEL.items():
            for label in BAD_LABELS:
                self.assert_refused(question(label=label), (kind, label))
            for label in ("a", "x" * 16, "!", "~", "\\"):
                self.assert_taken(question(label=label), (kind, label))

    def test_each_byte_of_a_label(self):
        for kind, question in WITH_LABEL.items():
            for byte in range(256):
                if 33 <= byte <= 126 and byte not in (91, 93):
                    self.assert_taken(question(label=[byte]), (kind, byte))
                else:
                    self.assert_refused(question(label=[byte]), (kind, byte))

    def test_days(self):
        for kind, question in ALL.items():
            for day in (0, 1, LAST_DAY - 1, LAST_DAY):
                self.assert_taken(question(on=day), (kind, "on", day))
                self.assert_taken(question(known=day), (kind, "known", day))
            for day in BAD_DAYS:
                self.assert_refused(question(on=day), (kind, "on", day))
                self.assert_refused(question(known=day), (kind, "known", day))
                self.assert_refused(question(on=day, known=day), (kind, "both", day))

    def test_k_may_be_any_number(self):
        for k in (0, 1, 64, LAST_DAY + 1, LAST_NUMBER):
            self.assert_taken(broken(k), k)

    def test_several_at_once_are_refused_once(self):
        for kind, question in WITH_LABEL.items():
            self.assert_refused(question("", LAST_NUMBER, LAST_NUMBER, 64), kind)
        self.assert_refused(broken(LAST_NUMBER, LAST_NUMBER, LAST_NUMBER, 64), "broken")


class Order(unittest.TestCase):
    def test_what_is_wrong_is_told_before_that_there_is_no_section(self):
        for question in (read, origin):
            found = ask_numbers(*TOLD, question("z"), question("z", law=64), question("z", on=LAST_DAY + 1),
                                question("z", known=LAST_DAY + 1), question("[z]"), question("a", law=1))
            self.assertEqual(found[3:], [-2, -1, -1, -1, -1, -2])

    def test_before_any_act_there_is_no_section(self):
        self.assertEqual(ask(read(), origin(), labels(), idle(), broken(), next_day()),
                         [[-2], [-2], [0, 0], [0], [0], [0]])

    def test_since_begin_there_is_no_section(self):
        found = ask(*TOLD, begin(), read(), origin(), labels(), idle(), broken(), next_day())
        self.assertEqual(found[-6:], [[-2], [-2], [0, 0], [0], [0], [0]])


class NothingChanges(unittest.TestCase):
    def questions(self):
        return [read(), labels(), origin(), idle(), broken(), next_day(), read(law=63), labels(law=63)]

    def test_by_a_refused_question(self):
        plain = ask(*TOLD, *self.questions())[len(TOLD):]
        refused = [question(**{part: value}) for question in OF_LAW.values()
                   for part, value in (("law", 64), ("on", LAST_DAY + 1), ("known", LAST_NUMBER))]
        refused += [question(label=label) for question in WITH_LABEL.values() for label in ("", "[", "x" * 17)]
        refused += [idle(on=LAST_NUMBER), idle(known=LAST_NUMBER), read("z"), origin("z")]
        found = ask(*TOLD, *refused, *self.questions())
        self.assertTrue(all(answer[0] < 0 for answer in found[len(TOLD):-len(plain)]))
        self.assertEqual(found[-len(plain):], plain)

    def test_by_a_refused_command(self):
        plain = ask(*TOLD, *self.questions())[len(TOLD):]
        refused = [put(law=64), put(label=""), take(label="a b"), take(begins=5, till=5), void(9), act(LAST_DAY + 1)]
        found = ask(*TOLD, *refused, *self.questions())
        self.assertEqual(found[-len(plain):], plain)

    def test_by_a_command_too_many(self):
        full = TOLD + [take(label="z", begins=1)] * 1022
        plain = ask(*full, *self.questions())[len(full):]
        found = ask(*full, take(), void(0), put(label="b"), *self.questions())
        self.assertEqual(found[len(full):len(full) + 3], [[-28]] * 3)
        self.assertEqual(found[-len(plain):], plain)

    def test_by_any_question(self):
        plain = ask(*TOLD, *self.questions())[len(TOLD):]
        found = ask(*TOLD, *self.questions(), *reversed(self.questions()), *self.questions())
        self.assertEqual(found[len(TOLD):len(TOLD) + len(plain)], plain)
        self.assertEqual(found[len(TOLD) + len(plain):-len(plain)], plain[::-1])
        self.assertEqual(found[-len(plain):], plain)

    def test_a_question_is_no_command_and_no_act(self):
        found = ask_numbers(act(5), put(), read("z"), next_day("z"), take(), act(4), act(5))
        self.assertEqual(found, [0, 0, -2, 0, 1, -1, 1])


if __name__ == "__main__":
    unittest.main()
