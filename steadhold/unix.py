"""A Unix: processes, memory, pipes and files in one environment."""

from steadhold.calls import Turn
from steadhold.memory import Memory
from steadhold.pipes import Pipes
from steadhold.processes import Process, Table
from steadhold.rounds import Rounds


class Unix:
    """A library in one environment, with one process at first."""

    def __init__(self, environment, share, files, program):
        self.environment = environment
        self.table = Table()
        self.memory = Memory(share)
        self.pipes = Pipes(self.memory)
        self.files = files
        self.ports = {}
        self._rounds = Rounds(self.table)
        self._rows = []
        self.table.put(0, Process(self.table.next_number(), 0, program))

    def rows(self):
        """The list of the ends of all turns that were done, in order."""
        return list(self._rows)

    def is_resting(self):
        """True if no process runs, or all wait for one another."""
        return self._rounds.is_resting()

    def next_slot(self):
        """The slot of the next turn, None if no process runs."""
        return self._rounds.next_slot()

    def note_turn(self, slot, row):
        """The slot had a turn with this end, which is None if it was not done."""
        if row is not None:
            self._rows.append(row)
        self._rounds.note(slot, row is not None)


class Running:
    """The machine of a Unix: turn after turn, until it rests; it ends with the list of the rows."""

    def __init__(self, unix):
        self._unix = unix
        self._turn = None
        self._prepare()

    def request(self):
        """Call the next turn, or end."""
        if self._unix.is_resting():
            return ("end", self._unix.rows())
        return ("call", self._turn)

    def accept(self, result):
        """The end of the turn."""
        self._unix.note_turn(self._turn.slot, result)
        self._prepare()

    def _prepare(self):
        if not self._unix.is_resting():
            self._turn = Turn(self._unix, self._unix.next_slot())
