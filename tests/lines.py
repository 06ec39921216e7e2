"""Writes lists of calls and reads the lists of answers, for all tests."""

from lawdays.book import answers

MOST_NUMBERS = 31000
MOST_CALLS = 2000
LAST_DAY = 1048576
LAST_NUMBER = 4294967295


class Untouchable(list):
    """A list that can't be changed, not for a while either."""

    def refuse(self, *args, **kwargs):
        raise AssertionError("what was handed in was changed")

    append = clear = extend = insert = pop = remove = reverse = sort = refuse
    __setitem__ = __delitem__ = __iadd__ = __imul__ = refuse


def row(value):
    """A text, or a list of numbers, with how many there are before it."""
    numbers = [ord(sign) for sign in value] if isinstance(value, str) else list(value)
    return [len(numbers)] + numbers


def begin():
    return [0]


def act(day):
    return [1, day]


def put(law=0, after="", label="a", text="t", begins=0, till=0):
    return [2, law, begins, till] + row(after) + row(label) + row(text)


def take(law=0, label="a", begins=0, till=0):
    return [3, law, begins, till] + row(label)


def text(law=0, label="a", text="t", begins=0, till=0):
    return [4, law, begins, till] + row(label) + row(text)


def word(law=0, label="a", old="o", text="t", begins=0, till=0):
    return [5, law, begins, till] + row(label) + row(old) + row(text)


def name(law=0, label="a", to="b", follow=0, begins=0, till=0):
    return [6, law, follow, begins, till] + row(label) + row(to)


def void(command=0):
    return [7, command]


def read(label="a", on=0, known=LAST_DAY, law=0):
    return [8, law, on, known] + row(label)


def labels(on=0, known=LAST_DAY, law=0):
    return [9, law, on, known]


def origin(label="a", on=0, known=LAST_DAY, law=0):
    return [10, law, on, known] + row(label)


def idle(on=0, known=LAST_DAY):
    return [11, on, known]


def broken(k=0, on=0, known=LAST_DAY, law=0):
    return [12, law, on, known, k]


def next_day(label="a", on=0, known=LAST_DAY, law=0):
    return [13, law, on, known] + row(label)


COMMANDS = {"put": put, "take": take, "text": text, "word": word, "name": name}


def flat(calls):
    """The one list of numbers that these calls are handed in as."""
    numbers = [number for call in calls for number in call]
    assert len(numbers) <= MOST_NUMBERS and len(calls) <= MOST_CALLS, "no such list is ever handed in"
    return numbers


def split(told):
    """The answers, each a list, out of the list that was given back."""
    found = []
    place = 0
    while place < len(told):
        size = told[place]
        assert place + 1 + size <= len(told), "an answer is shorter than told"
        found.append(told[place + 1:place + 1 + size])
        place += 1 + size
    return found


def ask(*calls):
    """The answers to these calls, begin ahead of them; begin's own is left out."""
    found = split(answers(Untouchable(flat([begin()] + list(calls)))))
    assert len(found) == len(calls) + 1, "there is not one answer a call"
    assert found[0] == [0], "begin did not answer 0"
    return found[1:]


def ask_numbers(*calls):
    """Likewise, where each answer is a number alone."""
    found = ask(*calls)
    for answer in found:
        assert len(answer) == 1, "an answer is not a number alone"
    return [answer[0] for answer in found]


def signs(numbers):
    return "".join(chr(number) for number in numbers)


def cut_rows(numbers):
    """Texts that were written with how many bytes they have before each."""
    found = []
    place = 0
    while place < len(numbers):
        size = numbers[place]
        assert place + 1 + size <= len(numbers), "a row is shorter than told"
        found.append(signs(numbers[place + 1:place + 1 + size]))
        place += 1 + size
    return found


def meaning(call, answer):
    """What an answer to a question says: a refusal as its number, else a text, a list, a pair, a day or None."""
    kind = call[0]
    if answer[0] < 0:
        assert len(answer) == 1, "a refusal does not stand alone"
        return answer[0]
    if kind in (12, 13) and answer[0] == 0:
        assert len(answer) == 1, "there is something behind none"
        return None
    assert answer[0] == (1 if kind in (12, 13) else 0), "the first number is neither told nor found"
    rest = answer[1:]
    if kind == 8:
        return signs(rest)
    if kind == 9:
        found = cut_rows(rest[1:])
        assert len(found) == rest[0], "there are not as many labels as told"
        return found
    if kind == 10:
        assert len(rest) % 2 == 0, "a row has no command"
        return list(zip(rest[0::2], rest[1::2]))
    if kind == 11:
        return rest
    if kind == 12:
        section, reference = cut_rows(rest)
        return section, reference
    (day,) = rest
    return day


def tell(calls, *questions):
    """What the answers to the questions say, behind the calls; of one question its answer alone."""
    found = ask(*calls, *questions)[len(calls):]
    meanings = [meaning(question, answer) for question, answer in zip(questions, found, strict=True)]
    return meanings[0] if len(questions) == 1 else meanings


def sections(calls, on=0, known=LAST_DAY, law=0):
    """The law's sections: label and text of each."""
    found = tell(calls, labels(on, known, law))
    return [(label, tell(calls, read(label, on, known, law))) for label in found]


def all_broken(calls, on=0, known=LAST_DAY, law=0):
    """All broken references, with one asked for behind the last."""
    found = []
    while True:
        pair = tell(calls, broken(len(found), on, known, law))
        if pair is None:
            return found
        found.append(pair)
