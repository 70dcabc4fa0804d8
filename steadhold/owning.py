"""Owning: small programs that tell from a block's words which blocks it owns, and the types that they define."""

from steadhold.bounds import is_between, is_index
from steadhold.errors import NotValid
from steadhold.frames import WORDS, is_word
from steadhold.slices import ENVIRONMENTS, is_environment

MOST_TYPES = 4
ROOT_BLOCKS = 4
DATA = 0
ROOT = 1

_FIRST_OF_PROGRAMS = 2
_MOST_CLAUSES = 8
_MOST_GUARDS = 4


def is_program(value, count):
    """True if the value is a program that can define a new type when there are count types; it may be anything."""
    if not isinstance(value, tuple) or len(value) > _MOST_CLAUSES:
        return False
    return all([_is_clause(clause, count) for clause in value])


def _is_clause(value, count):
    if not isinstance(value, tuple) or len(value) != 4:
        return False
    guards, start, many, kind = value
    if not isinstance(guards, tuple) or len(guards) > _MOST_GUARDS or not all([_is_guard(row) for row in guards]):
        return False
    return is_index(start, WORDS) and _is_many(many, start) and _is_kind(kind, count)


def _is_guard(value):
    if not isinstance(value, tuple) or len(value) != 3:
        return False
    return is_index(value[0], WORDS) and is_word(value[1]) and is_word(value[2])


def _is_many(value, start):
    if not isinstance(value, tuple):
        return is_between(value, 1, WORDS - start)
    return len(value) == 2 and value[0] == "word" and is_index(value[1], WORDS)


def _is_kind(value, count):
    return value == "own" or (is_index(value, count) and value != ROOT)


def run_program(program, words, blocks, own):
    """The tuple of the tuples (block, type) that are owned by the words, or None if the words are ill."""
    owned = []
    for guards, start, many, kind in program:
        if _let_pass(guards, words):
            number = own if kind == "own" else kind
            owned.extend([(word, number) for word in _told(words, start, many) if word != 0])
    numbers = [row[0] for row in owned]
    if not all([_can_be_owned(number, blocks) for number in numbers]) or len(set(numbers)) < len(numbers):
        return None
    return tuple(owned)


def _let_pass(guards, words):
    return all([(words[index] & mask) == value for index, mask, value in guards])


def _told(words, start, many):
    """The words of a clause; a slice ends with the last word, however many are told."""
    if isinstance(many, tuple):
        return words[start:start + words[many[1]]]
    return words[start:start + many]


def _can_be_owned(block, blocks):
    return ROOT_BLOCKS <= block < blocks


class Types:
    """The types 0 and 1, and those that environments have registered."""

    def __init__(self, blocks):
        self._blocks = blocks
        self._programs = []
        self._registered = [0] * ENVIRONMENTS

    def add(self, program, environment):
        """Register a type; its number, or None if it is no program or one too many."""
        if not is_environment(environment):
            raise NotValid()
        if not is_program(program, self.count()):
            return None
        if program in self._programs:
            return _FIRST_OF_PROGRAMS + self._programs.index(program)
        if self._registered[environment] == MOST_TYPES:
            return None
        self._programs.append(program)
        self._registered[environment] += 1
        return self.count() - 1

    def is_known(self, number):
        """True if there is a type with this number."""
        return is_index(number, self.count())

    def count(self):
        """The number of the types, 0 and 1 too."""
        return _FIRST_OF_PROGRAMS + len(self._programs)

    def owned(self, number, words):
        """What a block of this type owns by its words: tuples (block, type), or None if they are ill."""
        if number == DATA:
            return ()
        if number == ROOT:
            return self._owned_by_root(words)
        return run_program(self._programs[number - _FIRST_OF_PROGRAMS], words, self._blocks, number)

    def programs(self):
        """The list of the registered programs, from type 2 on."""
        return list(self._programs)

    def _owned_by_root(self, words):
        block, kind = words[0], words[1]
        if block == 0:
            return ()
        if not _can_be_owned(block, self._blocks) or not self.is_known(kind) or kind == ROOT:
            return None
        return ((block, kind),)
