"""The order of turns: round the slots whose processes run."""

from steadhold.processes import SLOTS, is_running


class Rounds:
    """Tells whose turn is next, and whether the processes of a table all wait for one another."""

    def __init__(self, table):
        self._table = table
        self._last_slot = SLOTS - 1
        self._vain = 0

    def next_slot(self):
        """The next slot behind that of the last turn whose process runs, or None."""
        for at in range(self._last_slot + 1, self._last_slot + 1 + SLOTS):
            if is_running(self._table.at(at % SLOTS)):
                return at % SLOTS
        return None

    def note(self, slot, is_done):
        """The slot had its turn, which was done or not."""
        self._last_slot = slot
        self._vain = 0 if is_done else self._vain + 1

    def is_resting(self):
        """True if no process runs, or each running one had a turn in vain since one was done."""
        return self._vain >= len(self._table.running())

    def copied(self, table):
        """A copy over a copy of the table."""
        copy = Rounds(table)
        copy._last_slot = self._last_slot
        copy._vain = self._vain
        return copy
