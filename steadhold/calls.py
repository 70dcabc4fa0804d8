"""Turns: one instruction of one process, and the calls of the system, done by requests alone."""

from steadhold.memory import Clear, Fork, Grow, Read, Write
from steadhold.pipes import End, Make, Put, Take
from steadhold.processes import ENDS, Opening, child_of, path_in
from steadhold.programs import instruction_at, plain_step
from steadhold.services import serve


def _begin(turn, _):
    """Behind the first request, which is the pass: what the instruction is."""
    process = turn.process
    instruction = instruction_at(process.program, process.place)
    word = instruction[0]
    turn.name = instruction[1] if word == "call" else word
    memory, registers = turn.unix.memory, process.registers
    if word == "call":
        action = _CALLS.get(turn.name, serve)
        action(turn)
    elif word == "load":
        turn.call(Read(memory, turn.slot, registers[instruction[2]]), _loaded)
    elif word == "store":
        turn.call(Write(memory, turn.slot, registers[instruction[1]], registers[instruction[2]]), _stored)
    else:
        registers, place = plain_step(instruction, registers, process.place)
        turn.finish(registers, place)


def _loaded(turn, word):
    if word is None:
        turn.leave(1)
        return
    process = turn.process
    registers = list(process.registers)
    registers[instruction_at(process.program, process.place)[1]] = word
    turn.finish(registers, process.place + 1)


def _stored(turn, is_stored):
    if is_stored is None:
        turn.leave(1)
    elif is_stored == "full":
        turn.name = "full"
        turn.leave(2)
    else:
        turn.finish(turn.process.registers, turn.process.place + 1)


def _fork(turn):
    slot = turn.unix.table.least_slot()
    if slot is None:
        turn.refuse()
    else:
        turn.call(Fork(turn.unix.memory, turn.slot, slot), _forked)


def _forked(turn, _):
    table = turn.unix.table
    number = table.next_number()
    table.put(table.least_slot(), child_of(turn.process, number))
    turn.succeed({1: number})


def _exit(turn):
    turn.leave(turn.word(1))


def _wait(turn):
    table = turn.unix.table
    children = table.children(turn.process.number)
    over = [slot for slot in children if table.at(slot).code is not None]
    if not children:
        turn.refuse()
    elif not over:
        turn.wait()
    else:
        child = table.at(over[0])
        table.remove(over[0])
        turn.succeed({1: child.number, 2: child.code})


def _pipe(turn):
    if len(turn.unix.table.free_ends(turn.process)) < 2:
        turn.refuse()
    else:
        turn.call(Make(turn.unix.pipes), _pipe_made)


def _pipe_made(turn, pipe):
    if pipe is None:
        turn.refuse()
        return
    outlet = turn.lead_new_end(Opening("outlet", pipe, None, 0))
    inlet = turn.lead_new_end(Opening("inlet", pipe, None, 0))
    turn.succeed({1: outlet, 2: inlet})


def _read(turn):
    opening = turn.opening()
    if opening is None or opening.kind == "inlet" or opening.kind == "write":
        turn.refuse()
    elif opening.kind == "read":
        turn.ask_files(("get", opening.path, opening.offset, 1), _read_from_file)
    elif turn.unix.pipes.size(opening.pipe) > 0:
        turn.call(Take(turn.unix.pipes, opening.pipe), _taken)
    elif turn.unix.table.leads(opening.pipe, "inlet"):
        turn.wait()
    else:
        turn.refuse()


def _read_from_file(turn, answer):
    if answer[0] == "no" or not answer[1]:
        turn.refuse()
        return
    opening = turn.opening()
    opening.offset += 1
    turn.succeed({1: answer[1][0]})


def _taken(turn, word):
    turn.succeed({1: word})


def _write(turn):
    opening = turn.opening()
    if opening is None or opening.kind == "outlet" or opening.kind == "read":
        turn.refuse()
    elif opening.kind == "write":
        turn.ask_files(("put", opening.path, opening.offset, (turn.word(2),)), _written_to_file)
    elif not turn.unix.table.leads(opening.pipe, "outlet"):
        turn.refuse()
    else:
        turn.call(Put(turn.unix.pipes, opening.pipe, turn.word(2)), _put)


def _written_to_file(turn, answer):
    if answer[0] == "no":
        turn.refuse()
        return
    opening = turn.opening()
    opening.offset += 1
    turn.succeed({})


def _put(turn, is_put):
    if is_put:
        turn.succeed({})
    else:
        turn.wait()


def _close(turn):
    if turn.word(1) not in turn.process.ends:
        turn.refuse()
    else:
        turn.close(turn.word(1), _succeed)


def _succeed(turn, _):
    turn.succeed({})


def _move(turn):
    end, to = turn.word(1), turn.word(2)
    if end not in turn.process.ends or to >= ENDS:
        turn.refuse()
    elif end == to:
        turn.succeed({})
    else:
        turn.close(to, _moved)


def _moved(turn, _):
    ends = turn.process.ends
    ends[turn.word(2)] = ends.pop(turn.word(1))
    turn.succeed({})


def _grow(turn):
    turn.call(Grow(turn.unix.memory, turn.slot), _grown)


def _grown(turn, many):
    if many is None or many == "full":
        turn.refuse()
    else:
        turn.succeed({1: many})


def _who(turn):
    turn.succeed({1: turn.process.number, 2: turn.process.parent})


def _close_ends(turn, _):
    """Close the ends, ascending, one by one as a pipe can go with each of them; then clear the memory."""
    ends = sorted(turn.process.ends)
    if ends:
        turn.close(ends[0], _close_ends)
    else:
        turn.call(Clear(turn.unix.memory, turn.slot), _cleared)


def _cleared(turn, _):
    turn.be_over()


_CALLS = {
    "fork": _fork,
    "exit": _exit,
    "wait": _wait,
    "pipe": _pipe,
    "read": _read,
    "write": _write,
    "close": _close,
    "move": _move,
    "grow": _grow,
    "who": _who,
}


class Turn:
    """The machine of one turn of the process in a slot of a Unix.

    It keeps what it wants next, and the function that goes on with the result of that; such a function ends by
    telling the turn one thing: to ask, call or close something, to wait, to refuse or succeed, to finish or leave.
    """

    def __init__(self, unix, slot):
        self.unix = unix
        self.slot = slot
        self.process = unix.table.at(slot)
        self.name = None
        self._wanted = ("pass",)
        self._then = _begin
        self._code = None

    def request(self):
        """The next request, a machine to call, or the end."""
        return self._wanted

    def accept(self, result):
        """The result of what was wanted."""
        then = self._then
        then(self, result)

    def word(self, number):
        """The word of the register with this number."""
        return self.process.registers[number]

    def path(self):
        """The path that the call is told, or None."""
        return path_in(self.process.registers)

    def opening(self):
        """The opening of the end that the call is told, or None."""
        return self.unix.table.opening(self.process.ends.get(self.word(1)))

    def lead_new_end(self, opening):
        """The least free end leads to a new opening; the end."""
        table = self.unix.table
        end = table.free_ends(self.process)[0]
        self.process.ends[end] = table.add(opening)
        return end

    def ask(self, request, then):
        """Make a request to the kernel, and then go on."""
        self._wanted = request
        self._then = then

    def call(self, machine, then):
        """Run a machine, and then go on."""
        self.ask(("call", machine), then)

    def ask_files(self, request, then):
        """Make a request to the files, and then go on."""
        self.call(self.unix.files.ask(request), then)

    def close(self, end, then):
        """Close an end if there is one, with its pipe if that has no opening any more, and then go on."""
        pipe = self.unix.table.close(self.process, end)
        if pipe is None:
            then(self, None)
        else:
            self.call(End(self.unix.pipes, pipe), then)

    def open_if(self, answer, kind, offset):
        """Open the file of the call if the files did not refuse."""
        if answer[0] == "no":
            self.refuse()
            return
        self.succeed({1: self.lead_new_end(Opening(kind, None, self.path(), offset))})

    def wait(self):
        """The turn is not done."""
        self._wanted = ("end", None)

    def refuse(self):
        """The call is done, and refused."""
        self._end_call({0: 0})

    def succeed(self, results):
        """The call is done; results is a dict from registers to words."""
        self._end_call({0: 1, **results})

    def leave(self, code):
        """The process is to be over with this code."""
        self._code = code
        _close_ends(self, None)

    def be_over(self):
        """The ends are closed and the memory is cleared: the process is over."""
        self.unix.table.finish(self.slot, self._code)
        self.finish(self.process.registers, self.process.place + 1)

    def finish(self, registers, place):
        """The turn is done; these are the registers and the place behind it."""
        process = self.process
        process.registers = list(registers)
        process.place = place
        self._wanted = ("end", (process.number, self.name, tuple(registers)))

    def _end_call(self, results):
        registers = list(self.process.registers)
        for number, word in results.items():
            registers[number] = word
        self.finish(registers, self.process.place + 1)
