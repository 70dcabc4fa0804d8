"""The shell: scripts of pipelines, what they do to files, and how they become programs."""

from steadhold.bounds import is_between
from steadhold.frames import TOP, is_word
from steadhold.pipelines import program_of
from steadhold.programs import is_program
from steadhold.trees import MOST_WORDS, is_name

_MOST_COMMANDS = 3
_MOST_ECHOED = 6
_MOST_HEAD = 20
_MODES = ("anew", "behind")


def is_script(value):
    """True if the value is a script; it may be anything."""
    return isinstance(value, tuple) and all([_is_pipeline(pipeline) for pipeline in value])


def _is_pipeline(value):
    if not isinstance(value, tuple) or len(value) != 4:
        return False
    source, commands, mode, target = value
    if not is_word(source) or not isinstance(commands, tuple) or not isinstance(mode, str) or not is_word(target):
        return False
    if not is_between(len(commands), 1, _MOST_COMMANDS) or not all([_is_command(command) for command in commands]):
        return False
    if mode == "none":
        return target == 0
    return mode in _MODES and is_name(target) and source != target


def _is_command(value):
    if not isinstance(value, tuple) or len(value) == 0 or not isinstance(value[0], str):
        return False
    are_parts = _PARTS.get(value[0])
    return are_parts is not None and are_parts(value[1:])


def _are_none(parts):
    return len(parts) == 0


def _are_echoed(parts):
    if len(parts) != 1 or not isinstance(parts[0], tuple) or len(parts[0]) > _MOST_ECHOED:
        return False
    return all([is_word(word) for word in parts[0]])


def _is_head(parts):
    return len(parts) == 1 and is_between(parts[0], 0, _MOST_HEAD)


def _is_one_word(parts):
    return len(parts) == 1 and is_word(parts[0])


# For each word of a command what tells whether its parts are right.
_PARTS = {
    "echo": _are_echoed,
    "cat": _are_none,
    "count": _are_none,
    "sum": _are_none,
    "head": _is_head,
    "below": _is_one_word,
    "twice": _are_none,
}


def compiled(script):
    """The program of the script, None if it has too many instructions."""
    program = program_of(script)
    return program if is_program(program) else None


def plain_run(script, files):
    """The files behind the script: a dict from names to lists of words, as the one that is passed."""
    behind = {name: list(words) for name, words in files.items()}
    for source, commands, mode, target in script:
        words = behind.get(source, [])
        for command in commands:
            words = _written_by(command, words)
        if mode != "none":
            before = behind.get(target, []) if mode == "behind" else []
            behind[target] = (before + words)[:MOST_WORDS]
    return behind


def _written_by(command, words):
    """The list of the words that a command writes when it reads these."""
    word = command[0]
    if word == "echo":
        return list(command[1])
    if word == "count":
        return [len(words)]
    if word == "sum":
        return [sum(words) & TOP]
    if word == "head":
        return words[:command[1]]
    if word == "below":
        return [row for row in words if row < command[1]]
    if word == "twice":
        return [row for row in words for _ in range(2)]
    return list(words)
