"""Benches, on which a machine is changed."""

from mostspent.catalogues import catalogue, verdict_on
from mostspent.errors import InvalidMachine, InvalidStep, NoChange, NoSuchStep, TooManyChanges, TooManySteps
from mostspent.machines import MOST_STEPS, fault, is_step

MOST_CHANGES = 100


class Bench:
    """A machine to which steps are put and from which they are taken; changes can be undone and redone."""

    def __init__(self, machine):
        """A bench with the machine. Raises InvalidMachine."""
        word = fault(machine)
        if word is not None:
            raise InvalidMachine(word)
        # The machines ahead of all changes and behind each one, those behind undone changes too.
        self._machines = [machine]
        # How many changes are in force.
        self._changes = 0

    def put(self, step):
        """Put the step after all others. Raises InvalidStep, TooManySteps, TooManyChanges."""
        machine = self.machine()
        if not is_step(machine, step):
            raise InvalidStep("the step does not have the form of a step of the machine")
        if len(machine[3]) >= MOST_STEPS:
            raise TooManySteps("the machine has no room for one more step")
        self._change(machine[3] + (step,))

    def take(self, number):
        """Take out the step with this number. Raises NoSuchStep, TooManyChanges."""
        steps = self.machine()[3]
        if not 0 <= number < len(steps):
            raise NoSuchStep(number)
        self._change(steps[:number] + steps[number + 1:])

    def _change(self, steps):
        """Give the machine these steps. Raises TooManyChanges."""
        if self._changes == MOST_CHANGES:
            raise TooManyChanges("no more changes can be undone")
        machine = self.machine()
        self._changes += 1
        self._machines = self._machines[:self._changes] + [machine[:3] + (steps,) + machine[4:]]

    def undo(self):
        """Undo the last change that is in force; whether there was one."""
        if self._changes == 0:
            return False
        self._changes -= 1
        return True

    def redo(self):
        """Redo the change that was undone last; whether there was one."""
        if self.undone() == 0:
            return False
        self._changes += 1
        return True

    def machine(self):
        """The current machine."""
        return self._machines[self._changes]

    def changes(self):
        """How many changes can be undone."""
        return self._changes

    def undone(self):
        """How many changes can be redone."""
        return len(self._machines) - 1 - self._changes

    def verdict(self):
        """The verdict on the current machine. Raises TooManyTables."""
        return verdict_on(self.machine(), catalogue(self.machine()))

    def compared(self):
        """How many tables there are before the last change in force, now, and both. Raises NoChange, TooManyTables."""
        if self._changes == 0:
            raise NoChange("there is no change that is not undone")
        before = _tables(self._machines[self._changes - 1])
        after = _tables(self.machine())
        in_both = [table for table in after if table in before]
        return (len(before), len(after), len(in_both))


def _tables(machine):
    """The tables of the machine's catalogue, as keys."""
    return {table: True for _, table in catalogue(machine)}
