"""Programs of processes: tuples of instructions over registers, and those instructions that need no system."""

from steadhold.bounds import is_between, is_index
from steadhold.frames import TOP, is_word

REGISTERS = 6
NAMES = (
    "fork", "exit", "wait", "pipe", "read", "write", "close", "move", "open", "make", "drop", "sync", "grow", "who",
    "send", "receive",
)

_MOST_INSTRUCTIONS = 600
# For each instruction its parts: registers, words, places and names.
_PARTS = {
    "set": "rw",
    "copy": "rr",
    "add": "rrr",
    "sub": "rrr",
    "less": "rrr",
    "load": "rr",
    "store": "rr",
    "jump": "p",
    "if": "rp",
    "call": "n",
}


def is_program(value):
    """True if the value is a program; it may be anything."""
    if not isinstance(value, tuple) or len(value) > _MOST_INSTRUCTIONS:
        return False
    return all([_is_instruction(instruction) for instruction in value])


def _is_instruction(value):
    if not isinstance(value, tuple) or len(value) == 0 or not isinstance(value[0], str):
        return False
    kinds = _PARTS.get(value[0])
    if kinds is None or len(value) != len(kinds) + 1:
        return False
    return all([_is_part(part, kind) for part, kind in zip(value[1:], kinds)])


def _is_part(value, kind):
    if kind == "r":
        return is_index(value, REGISTERS)
    if kind == "w":
        return is_word(value)
    if kind == "p":
        return is_between(value, 0, _MOST_INSTRUCTIONS)
    return isinstance(value, str) and value in NAMES


def instruction_at(program, place):
    """The instruction at this place, or ("call", "exit") if there is none."""
    if place >= len(program):
        return ("call", "exit")
    return program[place]


def plain_step(instruction, registers, place):
    """The list of the registers and the place behind an instruction that needs nothing but them."""
    word = instruction[0]
    if word == "jump":
        return (list(registers), instruction[1])
    if word == "if":
        return (list(registers), place + 1 if registers[instruction[1]] == 0 else instruction[2])
    behind = list(registers)
    behind[instruction[1]] = _result(word, instruction[2:], registers)
    return (behind, place + 1)


def _result(word, parts, registers):
    """The word that the register gets."""
    if word == "set":
        return parts[0]
    if word == "copy":
        return registers[parts[0]]
    one, other = registers[parts[0]], registers[parts[1]]
    if word == "add":
        return (one + other) & TOP
    if word == "sub":
        return (one - other) & TOP
    return 1 if one < other else 0
