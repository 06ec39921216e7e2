"""The acts and commands that were told since the beginning."""

from lawdays.checks import is_day
from lawdays.command import Command, VOID, is_sound

MOST_ACTS = 512
MOST_COMMANDS = 1024

WRONG = -1
NO_ACT = -2
FULL = -28


class Record:
    """Acts are kept as the days on which they were made known."""

    def __init__(self):
        self.days = []
        self.commands = []

    def add_act(self, day):
        if not is_day(day) or self.is_before_last_act(day):
            return WRONG
        if len(self.days) == MOST_ACTS:
            return FULL
        self.days.append(day)
        return self.last_act()

    def add_command(self, command):
        if not is_sound(command):
            return WRONG
        return self.keep(command)

    def add_void(self, target):
        if target >= len(self.commands):
            return WRONG
        command = Command(VOID)
        command.target = target
        return self.keep(command)

    def keep(self, command):
        if len(self.days) == 0:
            return NO_ACT
        if len(self.commands) == MOST_COMMANDS:
            return FULL
        command.act = self.last_act()
        command.number = len(self.commands)
        self.commands.append(command)
        return command.number

    def last_act(self):
        return len(self.days) - 1

    def is_before_last_act(self, day):
        return len(self.days) > 0 and day < self.days[self.last_act()]

    def known_on(self, day):
        return [command for command in self.commands if self.days[command.act] <= day]

    def valid_on(self, day):
        """The commands but voids that, as known on this day, aren't void."""
        known = self.known_on(day)
        void = {}
        # A void comes later than what it voids: from the last one on, it is settled whether
        # a void is void itself before it is met.
        for command in reversed(known):
            if command.kind == VOID and command.number not in void:
                void[command.target] = True
        return [command for command in known if command.kind != VOID and command.number not in void]
