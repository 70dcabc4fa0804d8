"""Processes in their slots, and the openings to which their ends lead."""

from steadhold.bounds import is_index
from steadhold.errors import NotValid
from steadhold.programs import REGISTERS

SLOTS = 4
ENDS = 4

_PIPE_KINDS = ("outlet", "inlet")


def path_in(registers):
    """The path that a call is told by its registers, or None."""
    if registers[3] == 0:
        return None
    return (registers[3],) if registers[2] == 0 else (registers[2], registers[3])


def is_running(process):
    """True if there is a process that is not over; it may be None."""
    return process is not None and process.code is None


class Process:
    """A program with registers, a place and ends; its code is None while it runs."""

    def __init__(self, number, parent, program):
        self.number = number
        self.parent = parent
        self.program = program
        self.place = 0
        self.registers = [0] * REGISTERS
        self.ends = {}
        self.code = None


def copied_process(process):
    """A copy that shares nothing with the process."""
    copy = Process(process.number, process.parent, process.program)
    copy.place = process.place
    copy.registers = list(process.registers)
    copy.ends = dict(process.ends)
    copy.code = process.code
    return copy


def child_of(process, number):
    """The child that the process has behind its fork, with this number."""
    child = copied_process(process)
    child.number = number
    child.parent = process.number
    child.place = process.place + 1
    child.registers[:2] = [1, 0]
    return child


class Opening:
    """An outlet or inlet of a pipe, or of a file that is read or written; it has a pipe, or a path and an offset."""

    def __init__(self, kind, pipe, path, offset):
        self.kind = kind
        self.pipe = pipe
        self.path = path
        self.offset = offset


class Table:
    """The processes by their slots, and the openings by their numbers."""

    def __init__(self):
        self._slots = [None] * SLOTS
        self._openings = {}
        self._last_process = 0
        self._last_opening = 0

    def at(self, slot):
        """The process in the slot, or None."""
        return self._slots[slot] if is_index(slot, SLOTS) else None

    def put(self, slot, process):
        """The slot gets the process."""
        if not is_index(slot, SLOTS):
            raise NotValid()
        self._slots[slot] = process

    def remove(self, slot):
        """The slot has no process any more."""
        if not is_index(slot, SLOTS):
            raise NotValid()
        self._slots[slot] = None

    def least_slot(self):
        """The least slot without a process, or None."""
        if None not in self._slots:
            return None
        return self._slots.index(None)

    def next_number(self):
        """The number of the next process, which is given by this."""
        self._last_process += 1
        return self._last_process

    def opening(self, number):
        """The opening with this number, or None."""
        return self._openings.get(number)

    def add(self, opening):
        """An opening more; its number."""
        self._last_opening += 1
        self._openings[self._last_opening] = opening
        return self._last_opening

    def users(self, number):
        """How many ends lead to the opening."""
        return sum([list(process.ends.values()).count(number) for process in self._processes()])

    def leads(self, pipe, kind):
        """True if there is an opening of this pipe and kind."""
        return any([row.pipe == pipe and row.kind == kind for row in self._openings.values()])

    def close(self, process, end):
        """The end is gone; the number of the pipe if it has no opening any more by this, otherwise None."""
        number = process.ends.pop(end, None)
        opening = self.opening(number)
        if opening is None or self.users(number) > 0:
            return None
        del self._openings[number]
        if opening.kind not in _PIPE_KINDS or any([self.leads(opening.pipe, kind) for kind in _PIPE_KINDS]):
            return None
        return opening.pipe

    def free_ends(self, process):
        """The list of the numbers that are no ends of the process, ascending."""
        return [end for end in range(ENDS) if end not in process.ends]

    def children(self, number):
        """The list of the slots of the children of a process, by ascending numbers of these."""
        rows = [(self._slots[slot].number, slot) for slot in range(SLOTS) if self._is_child(slot, number)]
        return [slot for _, slot in sorted(rows)]

    def running(self):
        """The list of the slots whose processes run, ascending."""
        return [slot for slot in range(SLOTS) if is_running(self._slots[slot])]

    def finish(self, slot, code):
        """The process is over with this code; who is over and has no parent leaves the slot."""
        process = self._slots[slot]
        process.code = code
        for child in self.children(process.number):
            orphan = self._slots[child]
            orphan.parent = 0
        self._slots = [None if _is_forgotten(row) else row for row in self._slots]

    def copied(self):
        """A copy that shares nothing with the table."""
        copy = Table()
        copy._slots = [None if row is None else copied_process(row) for row in self._slots]
        copy._openings = {
            number: Opening(row.kind, row.pipe, row.path, row.offset) for number, row in self._openings.items()
        }
        copy._last_process = self._last_process
        copy._last_opening = self._last_opening
        return copy

    def _processes(self):
        return [process for process in self._slots if process is not None]

    def _is_child(self, slot, number):
        process = self._slots[slot]
        return process is not None and process.parent == number


def _is_forgotten(process):
    """True if nobody can wait any more for a process that is over."""
    return process is not None and process.code is not None and process.parent == 0
