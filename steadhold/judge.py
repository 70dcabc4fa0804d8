"""The judge: whether the rows of a Unix are those of a plain one, but for what was refused for lack of room."""

from steadhold.bounds import is_at_least
from steadhold.frames import is_word
from steadhold.plain import Plain
from steadhold.programs import REGISTERS

# The names of the turns that lack of room can change.
_NEED_ROOM = ("pipe", "grow", "sync", "open", "make", "write", "full")


def first_fault(program, tree, rows):
    """The index of the first row that is a fault, or -1."""
    plain = Plain(program, tree)
    for at, row in enumerate(rows):
        plain = _led(plain, row)
        if plain is None:
            return at
    return -1


def tree_behind(program, tree, rows):
    """The plain Unix's files behind the rows, None if there is a fault."""
    plain = Plain(program, tree)
    for row in rows:
        plain = _led(plain, row)
        if plain is None:
            return None
    return plain.tree()


def tree_at_sync(program, tree, rows, which):
    """The files directly behind the sync with this index; None if there is none, or a fault before it."""
    plain = Plain(program, tree)
    many = 0
    for row in rows:
        plain = _led(plain, row)
        if plain is None:
            return None
        if row[1] == "sync" and row[2][0] == 1:
            if many == which:
                return plain.tree()
            many += 1
    return None


def _led(plain, row):
    """The plain Unix behind the row, None if the row is a fault; the one that is passed may be changed."""
    if not _is_row(row):
        return None
    told = _told_by(row)
    before = plain
    found = None
    while found is None:
        if plain.is_resting():
            return None
        # What is told can only be tried on a copy from before the turn.
        before = plain if told is None else plain.copied()
        found = plain.turn(None)
    if found == row:
        return plain
    if told is not None and before.turn(told) == row:
        return before
    return None


def _told_by(row):
    """What the plain Unix is told if its turn does not give the row, None if nothing is."""
    _, name, registers = row
    if name in _NEED_ROOM:
        return True
    if name == "receive" and registers[0] == 1:
        return (registers[1], registers[2])
    return None


def _is_row(value):
    """True if the value has the form of a row; True and False are no words."""
    if not isinstance(value, tuple) or len(value) != 3:
        return False
    number, name, registers = value
    if not is_at_least(number, 1) or not isinstance(name, str) or not isinstance(registers, tuple):
        return False
    return len(registers) == REGISTERS and all([is_word(word) for word in registers])
