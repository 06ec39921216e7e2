"""The acts and commands that were told since the beginning."""

from lawdays.checks import is_day
from lawdays.command import is_sound

MOST_ACTS = 512
MOST_COMMANDS = 1024

DONE = 0
WRONG = -1
NO_ACT = -2
FULL = -28


class Record:
    """Acts are kept as the days on which they were made known."""

    def __init__(self):
        self.days = []
        self.commands = []

    def begin(self):
        self.days = []
        self.commands = []
        return DONE

    def add_act(self, day):
        if not is_day(day) or self.is_before_last_act(day):
            return WRONG
        if len(self.days) == MOST_ACTS:
            return FULL
        self.days.append(day)
        return self.last_act()

    def add_command(self, command):
        if not is_sound(command):
            return WRONG
        if len(self.days) == 0:
            return NO_ACT
        if len(self.commands) == MOST_COMMANDS:
            return FULL
        command.act = self.last_act()
        self.commands.append(command)
        return len(self.commands) - 1

    def last_act(self):
        return len(self.days) - 1

    def is_before_last_act(self, day):
        return len(self.days) > 0 and day < self.days[self.last_act()]
