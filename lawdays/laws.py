"""The laws as they stood on a day, as known on a day."""

from lawdays.course import Course
from lawdays.record import Record


class Laws:
    """The record of what was told, and the course of each law that was asked for."""

    def __init__(self):
        self.record = Record()
        self.courses = {}

    def begin(self):
        self.record = Record()
        self.courses = {}

    def course_of(self, law):
        if law not in self.courses:
            self.courses[law] = Course()
        return self.courses[law]

    def commands_of(self, law, known):
        """The law's commands that aren't void, as known on the day known, in the order in which they are taken."""
        return in_order([command for command in self.record.valid_on(known) if command.law == law])

    def sections_by(self, law, commands, on):
        """The law's sections on a day, where these are its commands."""
        return self.course_of(law).take_all(counting_on(commands, on))

    def sections_of(self, law, on, known):
        return self.sections_by(law, self.commands_of(law, known), on)

    def without_effect(self, on, known):
        """The numbers of all commands that count and have no effect, rising."""
        found = []
        by_law = {}
        for command in counting_on(self.record.valid_on(known), on):
            by_law.setdefault(command.law, []).append(command)
        for law in by_law:
            course = self.course_of(law)
            course.take_all(in_order(by_law[law]))
            found.extend(course.without_effect())
        return sorted(found)


def in_order(commands):
    return sorted(commands, key=lambda command: (command.begins, command.number))


def counting_on(commands, day):
    """Those of the commands, none of them void, that count on this day."""
    return [command for command in commands if command.begins <= day and (command.till == 0 or day < command.till)]


def days_above(commands, on):
    """The days above on on which one of the commands begins or is over, rising: on no others anything changes."""
    days = {}
    for command in commands:
        days[command.begins] = True
        days[command.till] = True
    return sorted([day for day in days if day > on])
