"""A command, and whether it is one that may be recorded."""

from lawdays.checks import is_label, is_law, is_span, is_text

# The kinds of command bear the numbers of the calls that tell them.
PUT = 2
TAKE = 3
TEXT = 4
WORD = 5
NAME = 6
VOID = 7

LAST_FOLLOW = 1


class Command:
    """What one command says; what its kind does not say stays empty or 0."""

    def __init__(self, kind):
        self.kind = kind
        self.number = 0
        self.act = 0
        self.law = 0
        self.begins = 0
        self.till = 0
        self.follow = 0
        self.target = 0
        self.after = []
        self.label = []
        self.old = []
        self.to = []
        self.text = []


def is_sound(command):
    if not is_law(command.law) or not is_span(command.begins, command.till):
        return False
    if not is_label(command.label) or not is_text(command.text):
        return False
    if command.kind == PUT:
        return is_place(command.after)
    if command.kind == WORD:
        return is_old(command.old)
    if command.kind == NAME:
        return is_label(command.to) and command.follow <= LAST_FOLLOW
    return True


def is_place(after):
    # Without bytes it names no section: the place in front of all is meant.
    return len(after) == 0 or is_label(after)


def is_old(old):
    return len(old) > 0 and is_text(old)
