"""The calls that a turn passes on to the files or to the net."""

from steadhold.frames import TOP

_MOST_PORTS = 4
_MOST_MODE = 2
_ANEW = 1


def _open(turn):
    path = turn.path()
    if turn.word(1) > _MOST_MODE or path is None or not turn.unix.table.free_ends(turn.process):
        turn.refuse()
    else:
        turn.ask_files(("size", path), _sized)


def _sized(turn, answer):
    mode = turn.word(1)
    if mode == 0:
        turn.open_if(answer, "read", 0)
    elif answer == ("no", "path"):
        turn.ask_files(("make", turn.path(), "file"), _file_made)
    elif mode == _ANEW and answer[0] == "ok":
        turn.ask_files(("shrink", turn.path(), 0), _emptied)
    else:
        turn.open_if(answer, "write", answer[1])


def _file_made(turn, answer):
    if turn.word(1) == _ANEW and answer[0] == "ok":
        turn.ask_files(("shrink", turn.path(), 0), _emptied)
    else:
        turn.open_if(answer, "write", 0)


def _emptied(turn, answer):
    turn.open_if(answer, "write", 0)


def _make(turn):
    _ask_of_path(turn, "make", ("dir",))


def _drop(turn):
    _ask_of_path(turn, "drop", ())


def _ask_of_path(turn, word, parts):
    path = turn.path()
    if path is None:
        turn.refuse()
    else:
        turn.ask_files((word, path) + parts, _answered)


def _answered(turn, answer):
    if answer[0] == "no":
        turn.refuse()
    else:
        turn.succeed({})


def _sync(turn):
    turn.ask_files(("sync",), _answered)


def _send(turn):
    turn.ask(("send", (turn.word(1), turn.word(2), 0, 0, 0, 0)), _answered)


def _receive(turn):
    ports, port = turn.unix.ports, turn.word(1)
    if port in ports:
        turn.ask(("next", ports[port]), _received)
    elif len(ports) == _MOST_PORTS:
        turn.refuse()
    else:
        turn.ask(("filter", ((0, TOP, port),)), _enrolled)


def _enrolled(turn, answer):
    if answer[0] == "no":
        turn.refuse()
        return
    turn.unix.ports[turn.word(1)] = answer[1]
    turn.ask(("next", answer[1]), _received)


def _received(turn, answer):
    if answer[0] == "no" or answer[1] is None:
        turn.refuse()
    else:
        turn.succeed({1: answer[1][1], 2: answer[1][2]})


_SERVICES = {
    "open": _open,
    "make": _make,
    "drop": _drop,
    "sync": _sync,
    "send": _send,
    "receive": _receive,
}


def serve(turn):
    """Begin one of these calls, that of the turn's name."""
    action = _SERVICES[turn.name]
    action(turn)
