"""How a script becomes a program: rows of instructions whose places are still names of labels.

A child for a command reads its end 0 and writes its end 1; where it has no such end, its calls are refused, as they
are at the end of what it reads. The children jump to routines that all pipelines share. The one process that forks
them keeps at its end 0 what the next child is to read.
"""

_IN = 0
_OUT = 1
_MODES = {"anew": 1, "behind": 2}


def program_of(script):
    """The program of the script, a tuple of instructions, however many."""
    rows = []
    for at, pipeline in enumerate(script):
        rows.extend(_pipeline_rows(f"pipeline {at}", pipeline))
    routines = _routines_for([command[0] for row in script for command in row[1]])
    if routines:
        rows.append(("jump", "end"))
    return _placed(rows + routines)


def _placed(rows):
    """The instructions with places in place of labels; the label "end" is behind the last one."""
    places = {}
    many = 0
    for row in rows:
        if row[0] == "label":
            places[row[1]] = many
        else:
            many += 1
    places["end"] = many
    return tuple([_with_place(row, places) for row in rows if row[0] != "label"])


def _with_place(row, places):
    if row[0] == "jump" or row[0] == "if":
        return row[:-1] + (places[row[-1]],)
    return row


def _pipeline_rows(name, pipeline):
    """Fork a child for each command, and wait for all of them."""
    source, commands, mode, target = pipeline
    last = len(commands) - 1
    rows = []
    for at, command in enumerate(commands):
        parent = f"{name} command {at}"
        if at < last:
            made = f"{parent} pipe"
            rows.extend([("call", "pipe"), ("if", 0, made), ("jump", f"{name} end"), ("label", made)])
        # In the child r1 is 0 behind the fork.
        rows.extend([("call", "fork"), ("if", 1, parent)])
        rows.extend(_joining_rows(at, last))
        if at == 0:
            rows.extend(_source_rows(source, command))
        if at == last:
            rows.extend(_target_rows(mode, target, last))
        rows.extend(_command_rows(command))
        rows.append(("label", parent))
        if at < last:
            rows.extend(_joined_rows(at))
    return rows + _end_rows(f"{name} end", last)


def _joining_rows(at, last):
    """In a child: the inlet of the new pipe becomes its end 1, and the outlet is closed."""
    if at == last:
        return []
    if at == 0:
        return [("call", "close")]
    return [("set", 1, 2), ("set", 2, _OUT), ("call", "move")]


def _joined_rows(at):
    """In the parent: the outlet of the new pipe becomes its end 0, and everything else is closed."""
    if at == 0:
        return [("set", 1, 1), ("call", "close")]
    return [("set", 1, 1), ("set", 2, _IN), ("call", "move"), ("set", 1, 2), ("call", "close")]


def _end_rows(name, last):
    """Let go what only children read, so that none of them waits for ever, and wait for them."""
    rows = [("label", name)]
    if last > 0:
        rows.extend([("set", 1, _IN), ("call", "close")])
    return rows + [("call", "wait") for _ in range(last + 1)]


def _source_rows(source, command):
    """In the first child, whose r1 is still 0: the source becomes its end 0."""
    if source == 0 or command[0] == "echo":
        return []
    return [("set", 2, 0), ("set", 3, source), ("call", "open")]


def _target_rows(mode, target, last):
    """In the last child: the target becomes its end 1."""
    if mode == "none":
        return []
    rows = [("set", 1, _MODES[mode]), ("set", 2, 0), ("set", 3, target), ("call", "open")]
    if last == 0:
        # A child that reads nothing gets the end 0 for it.
        rows.extend([("set", 2, _OUT), ("call", "move")])
    return rows


def _command_rows(command):
    """What a child does when its ends are as they are to be."""
    word = command[0]
    if word == "echo":
        rows = [("set", 1, _OUT)]
        for echoed in command[1]:
            rows.extend([("set", 2, echoed), ("call", "write")])
        return rows + [("jump", "end")]
    if len(command) > 1:
        return [("set", 4, command[1]), ("jump", word)]
    return [("jump", word)]


def _routines_for(words):
    """The routines of the commands with these words; r4 has the part of the command, or 0."""
    rows = []
    if "cat" in words:
        rows.extend(_reading_rows("cat", "end") + _writing_rows("cat", []))
    if "count" in words:
        rows.extend(_reading_rows("count", "total") + [("set", 1, 1), ("add", 4, 4, 1), ("jump", "count")])
    if "sum" in words:
        rows.extend(_reading_rows("sum", "total") + [("add", 4, 4, 1), ("jump", "sum")])
    if "count" in words or "sum" in words:
        rows.extend([("label", "total"), ("copy", 1, 4)] + _writing_rows("end", []))
    if "head" in words:
        rows.extend([("label", "head"), ("if", 4, "head more"), ("jump", "end"), ("label", "head more")])
        rows.extend(_reading_rows("head next", "end"))
        rows.extend(_writing_rows("head", [("sub", 4, 4, 1)]))
    if "below" in words:
        rows.extend(_reading_rows("below", "end"))
        rows.extend([("less", 3, 1, 4), ("if", 3, "below it"), ("jump", "below"), ("label", "below it")])
        rows.extend(_writing_rows("below", []))
    if "twice" in words:
        rows.extend(_reading_rows("twice", "end") + _writing_rows("twice", [("call", "write")]))
    return rows


def _reading_rows(name, behind):
    """Under this label: read a word into r1, or jump if there is none."""
    there = f"{name} word"
    reading = [("label", name), ("set", 1, _IN), ("call", "read"), ("if", 0, there), ("jump", behind)]
    return reading + [("label", there)]


def _writing_rows(following, first):
    """Write the word of r1 and go on there, or end if nobody takes it; r1 is 1 when the first rows are done."""
    return [("copy", 2, 1), ("set", 1, _OUT)] + first + [("call", "write"), ("if", 0, following), ("jump", "end")]
