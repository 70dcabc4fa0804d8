"""The plain Unix: the same turns without frames, pages, blocks and requests."""

from steadhold.frames import WORDS
from steadhold.memory import MOST_PAGES
from steadhold.pipes import MOST_PIPES
from steadhold.processes import ENDS, SLOTS, Opening, Process, Table, child_of, path_in
from steadhold.programs import instruction_at, plain_step
from steadhold.rounds import Rounds
from steadhold.trees import ask, copied


def _fork(plain, slot, told):
    free = plain.table.least_slot()
    if free is None:
        return {0: 0}
    number = plain.table.next_number()
    plain.table.put(free, child_of(plain.table.at(slot), number))
    plain.memory[free] = list(plain.memory[slot])
    return {0: 1, 1: number}


def _wait(plain, slot, told):
    table = plain.table
    children = table.children(table.at(slot).number)
    if not children:
        return {0: 0}
    for child in children:
        process = table.at(child)
        if process.code is not None:
            table.remove(child)
            return {0: 1, 1: process.number, 2: process.code}
    return None


def _pipe(plain, slot, told):
    process = plain.table.at(slot)
    ends = plain.table.free_ends(process)
    free = [pipe for pipe in range(MOST_PIPES) if pipe not in plain.pipes]
    if told is True or len(ends) < 2 or not free:
        return {0: 0}
    plain.pipes[free[0]] = []
    process.ends[ends[0]] = plain.table.add(Opening("outlet", free[0], None, 0))
    process.ends[ends[1]] = plain.table.add(Opening("inlet", free[0], None, 0))
    return {0: 1, 1: ends[0], 2: ends[1]}


def _read(plain, slot, told):
    opening = plain.opening(slot)
    if opening is None or opening.kind not in ("outlet", "read"):
        return {0: 0}
    if opening.kind == "outlet":
        return _read_pipe(plain, opening.pipe)
    word, words = ask(plain.files, ("get", opening.path, opening.offset, 1))
    if word == "no" or not words:
        return {0: 0}
    opening.offset += 1
    return {0: 1, 1: words[0]}


def _read_pipe(plain, pipe):
    if plain.pipes[pipe]:
        return {0: 1, 1: plain.pipes[pipe].pop(0)}
    return None if plain.table.leads(pipe, "inlet") else {0: 0}


def _write(plain, slot, told):
    opening = plain.opening(slot)
    word = plain.table.at(slot).registers[2]
    if opening is None or opening.kind not in ("inlet", "write"):
        return {0: 0}
    if opening.kind == "inlet":
        return _write_pipe(plain, opening.pipe, word)
    if told is True or ask(plain.files, ("put", opening.path, opening.offset, (word,)))[0] == "no":
        return {0: 0}
    opening.offset += 1
    return {0: 1}


def _write_pipe(plain, pipe, word):
    if not plain.table.leads(pipe, "outlet"):
        return {0: 0}
    if len(plain.pipes[pipe]) == WORDS:
        return None
    plain.pipes[pipe].append(word)
    return {0: 1}


def _close(plain, slot, told):
    end = plain.table.at(slot).registers[1]
    if end not in plain.table.at(slot).ends:
        return {0: 0}
    plain.close(slot, end)
    return {0: 1}


def _move(plain, slot, told):
    process = plain.table.at(slot)
    end, to = process.registers[1], process.registers[2]
    if end not in process.ends or to >= ENDS:
        return {0: 0}
    if end != to:
        plain.close(slot, to)
        process.ends[to] = process.ends.pop(end)
    return {0: 1}


def _open(plain, slot, told):
    process = plain.table.at(slot)
    mode, path = process.registers[1], path_in(process.registers)
    ends = plain.table.free_ends(process)
    if told is True or mode > 2 or path is None or not ends:
        return {0: 0}
    if mode > 0:
        ask(plain.files, ("make", path, "file"))
    if mode == 1:
        ask(plain.files, ("shrink", path, 0))
    word, size = ask(plain.files, ("size", path))
    if word == "no":
        return {0: 0}
    opening = Opening("read", None, path, 0) if mode == 0 else Opening("write", None, path, size)
    process.ends[ends[0]] = plain.table.add(opening)
    return {0: 1, 1: ends[0]}


def _make(plain, slot, told):
    path = path_in(plain.table.at(slot).registers)
    if told is True or path is None:
        return {0: 0}
    return {0: 1 if ask(plain.files, ("make", path, "dir"))[0] == "ok" else 0}


def _drop(plain, slot, told):
    path = path_in(plain.table.at(slot).registers)
    if path is None:
        return {0: 0}
    return {0: 1 if ask(plain.files, ("drop", path))[0] == "ok" else 0}


def _sync(plain, slot, told):
    return {0: 0 if told is True else 1}


def _grow(plain, slot, told):
    words = plain.memory[slot]
    if told is True or len(words) == MOST_PAGES * WORDS:
        return {0: 0}
    words.extend([0] * WORDS)
    return {0: 1, 1: len(words)}


def _who(plain, slot, told):
    process = plain.table.at(slot)
    return {0: 1, 1: process.number, 2: process.parent}


def _send(plain, slot, told):
    return {0: 1}


def _receive(plain, slot, told):
    if not isinstance(told, tuple):
        return {0: 0}
    return {0: 1, 1: told[0], 2: told[1]}


# For each call but "exit" what does it: it returns what registers get which words, or None if it waits.
_CALLS = {
    "fork": _fork,
    "wait": _wait,
    "pipe": _pipe,
    "read": _read,
    "write": _write,
    "close": _close,
    "move": _move,
    "open": _open,
    "make": _make,
    "drop": _drop,
    "sync": _sync,
    "grow": _grow,
    "who": _who,
    "send": _send,
    "receive": _receive,
}


class Plain:
    """Processes, each with a list of words as its memory, pipes that are lists of words, and a tree of files."""

    def __init__(self, program, tree):
        self.table = Table()
        self.memory = [[] for _ in range(SLOTS)]
        self.pipes = {}
        self.files = copied(tree)
        self._rounds = Rounds(self.table)
        self.table.put(0, Process(self.table.next_number(), 0, program))

    def turn(self, told):
        """One turn, for which this is told; its row, or None if it was not done or nothing can run."""
        slot = self._rounds.next_slot()
        if slot is None:
            return None
        row = self._turn_of(slot, told)
        self._rounds.note(slot, row is not None)
        return row

    def is_resting(self):
        """True if no process runs, or all wait for one another."""
        return self._rounds.is_resting()

    def tree(self):
        """The files now, a new tree."""
        return copied(self.files)

    def copied(self):
        """An equal plain Unix that shares nothing with this one."""
        copy = Plain((), self.files)
        copy.table = self.table.copied()
        copy.memory = [list(words) for words in self.memory]
        copy.pipes = {pipe: list(words) for pipe, words in self.pipes.items()}
        copy._rounds = self._rounds.copied(copy.table)
        return copy

    def opening(self, slot):
        """The opening of the end that a call of the slot's process is told, or None."""
        process = self.table.at(slot)
        return self.table.opening(process.ends.get(process.registers[1]))

    def close(self, slot, end):
        """Close an end of the slot's process if there is one; its pipe goes if nothing leads to it any more."""
        pipe = self.table.close(self.table.at(slot), end)
        if pipe is not None:
            del self.pipes[pipe]

    def _turn_of(self, slot, told):
        process = self.table.at(slot)
        instruction = instruction_at(process.program, process.place)
        word = instruction[0]
        if word == "load" or word == "store":
            return self._use_memory(slot, instruction, told)
        if word != "call":
            registers, place = plain_step(instruction, process.registers, process.place)
            return _row_behind(process, word, registers, place)
        if instruction[1] == "exit":
            return self._leave(slot, process.registers[1], "exit")
        action = _CALLS[instruction[1]]
        results = action(self, slot, told)
        if results is None:
            return None
        registers = [results.get(at, old) for at, old in enumerate(process.registers)]
        return _row_behind(process, instruction[1], registers, process.place + 1)

    def _use_memory(self, slot, instruction, told):
        process = self.table.at(slot)
        words = self.memory[slot]
        registers = list(process.registers)
        word, one, other = instruction
        address = registers[other] if word == "load" else registers[one]
        if address >= len(words):
            return self._leave(slot, 1, word)
        if word == "load":
            registers[one] = words[address]
        elif told is True:
            return self._leave(slot, 2, "full")
        else:
            words[address] = registers[other]
        return _row_behind(process, word, registers, process.place + 1)

    def _leave(self, slot, code, name):
        """The process is over with this code; its row."""
        process = self.table.at(slot)
        for end in sorted(process.ends):
            self.close(slot, end)
        self.memory[slot] = []
        self.table.finish(slot, code)
        return _row_behind(process, name, process.registers, process.place + 1)


def _row_behind(process, name, registers, place):
    """The row of a turn behind which the process has these registers and this place."""
    process.registers = list(registers)
    process.place = place
    return (process.number, name, tuple(registers))
