"""Writes lists of calls and reads the lists of answers, for all tests."""

from lawdays.book import answers

MOST_NUMBERS = 31000
MOST_CALLS = 2000


class Untouchable(list):
    """A list that can't be changed, not for a while either."""

    def refuse(self, *args, **kwargs):
        raise AssertionError("what was handed in was changed")

    append = clear = extend = insert = pop = remove = reverse = sort = refuse
    __setitem__ = __delitem__ = __iadd__ = __imul__ = refuse


def row(value):
    """A text, or a list of numbers, with how many there are before it."""
    numbers = [ord(sign) for sign in value] if isinstance(value, str) else list(value)
    return [len(numbers)] + numbers


def begin():
    return [0]


def act(day):
    return [1, day]


def put(law=0, after="", label="a", text="t", begins=0, till=0):
    return [2, law, begins, till] + row(after) + row(label) + row(text)


def take(law=0, label="a", begins=0, till=0):
    return [3, law, begins, till] + row(label)


def text(law=0, label="a", text="t", begins=0, till=0):
    return [4, law, begins, till] + row(label) + row(text)


def word(law=0, label="a", old="o", text="t", begins=0, till=0):
    return [5, law, begins, till] + row(label) + row(old) + row(text)


def name(law=0, label="a", to="b", follow=0, begins=0, till=0):
    return [6, law, follow, begins, till] + row(label) + row(to)


COMMANDS = {"put": put, "take": take, "text": text, "word": word, "name": name}


def flat(calls):
    """The one list of numbers that these calls are handed in as."""
    numbers = [number for call in calls for number in call]
    assert len(numbers) <= MOST_NUMBERS and len(calls) <= MOST_CALLS, "no such list is ever handed in"
    return numbers


def split(told):
    """The answers, each a list, out of the list that was given back."""
    found = []
    place = 0
    while place < len(told):
        size = told[place]
        assert place + 1 + size <= len(told), "an answer is shorter than told"
        found.append(told[place + 1:place + 1 + size])
        place += 1 + size
    return found


def ask(*calls):
    """The answers to these calls, begin ahead of them; begin's own is left out."""
    found = split(answers(Untouchable(flat([begin()] + list(calls)))))
    assert len(found) == len(calls) + 1, "there is not one answer a call"
    assert found[0] == [0], "begin did not answer 0"
    return found[1:]


def ask_numbers(*calls):
    """Likewise, where each answer is a number alone."""
    found = ask(*calls)
    for answer in found:
        assert len(answer) == 1, "an answer is not a number alone"
    return [answer[0] for answer in found]
