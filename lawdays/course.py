"""How a law came to stand as it does: its commands, taken one behind another."""

from lawdays.effect import effect_of


class Step:
    """The number of a command that was taken, whether it had an effect, and the sections that stood behind it."""

    def __init__(self, number, has_effect, sections):
        self.number = number
        self.has_effect = has_effect
        self.sections = sections


class Course:
    """The steps of one law that were taken last.

    What stands depends on the commands taken alone. So where others are to be taken, those that both begin
    with are not taken again: from one day to the next most stay. A step without effect may be left out, too.
    """

    def __init__(self):
        self.steps = []

    def take_all(self, commands):
        """The sections that stand behind these commands and no others."""
        self.keep_same(commands)
        for command in commands[len(self.steps):]:
            self.take_one(command)
        return self.sections_now()

    def keep_same(self, commands):
        # No step has the number -1: behind the last command no step is kept.
        numbers = [command.number for command in commands] + [-1]
        kept = []
        place = 0
        for step in self.steps:
            if step.number == numbers[place]:
                kept.append(step)
                place = place + 1
            elif step.has_effect:
                # All behind it came to stand on what it did; without it they have to be taken again.
                break
        self.steps = kept

    def take_one(self, command):
        before = self.sections_now()
        behind = effect_of(command, before)
        if behind is None:
            self.steps.append(Step(command.number, False, before))
        else:
            self.steps.append(Step(command.number, True, behind))

    def sections_now(self):
        return self.steps[len(self.steps) - 1].sections if len(self.steps) > 0 else []

    def without_effect(self):
        return [step.number for step in self.steps if not step.has_effect]
