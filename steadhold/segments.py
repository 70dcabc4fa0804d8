"""Streams: deeds written as words, one behind the other, and cut into parts."""

from steadhold.frames import is_word
from steadhold.trees import ask, is_directory, is_request, new_tree

DEEDS = ("make", "put", "shrink", "drop")

_SIZE = 7
_MAKE_DIRECTORY = 1
_MAKE_FILE = 2
_PUT = 3
_SHRINK = 4
_DROP = 5


def written(deed):
    """The list of the words of a deed."""
    word, path = deed[0], deed[1]
    told = [len(path)] + list(path)
    if word == "make":
        return [_MAKE_DIRECTORY if deed[2] == "dir" else _MAKE_FILE] + told
    if word == "put":
        return [_PUT] + told + [deed[2], len(deed[3])] + list(deed[3])
    if word == "shrink":
        return [_SHRINK] + told + [deed[2]]
    return [_DROP] + told


def deeds_of(stream):
    """The list of the deeds, or None if the stream is broken."""
    if not all([is_word(word) for word in stream]):
        return None
    deeds = []
    at = 0
    while at < len(stream):
        if stream[at] == 0:
            at += 1
            continue
        deed = _deed_at(stream, at)
        if deed is None or not is_request(deed):
            return None
        deeds.append(deed)
        at += len(written(deed))
    return deeds


def _deed_at(stream, at):
    """The deed that begins here, which may be no request, or None if it has no number of a deed or no end."""
    number = stream[at]
    path = _counted(stream, at + 1)
    if path is None:
        return None
    if number == _MAKE_DIRECTORY or number == _MAKE_FILE:
        return ("make", path, "dir" if number == _MAKE_DIRECTORY else "file")
    if number == _DROP:
        return ("drop", path)
    behind = at + 2 + len(path)
    if behind >= len(stream):
        return None
    if number == _SHRINK:
        return ("shrink", path, stream[behind])
    words = _counted(stream, behind + 1)
    if number != _PUT or words is None:
        return None
    return ("put", path, stream[behind], words)


def _counted(stream, at):
    """The tuple of as many words as the word here says, which stand behind it; None if there are not so many."""
    if at >= len(stream) or at + stream[at] >= len(stream):
        return None
    return tuple(stream[at + 1:at + 1 + stream[at]])


def image_of(tree):
    """The stream that makes the tree from a new one."""
    stream = []
    ahead = [((), tree)]
    while ahead:
        path, part = ahead.pop()
        if path:
            stream.extend(written(("make", path, "dir" if is_directory(part) else "file")))
        if is_directory(part):
            # The last one that is put there is taken first.
            ahead.extend([(path + (name,), part["names"][name]) for name in sorted(part["names"], reverse=True)])
        elif part["words"]:
            stream.extend(written(("put", path, 0, tuple(part["words"]))))
    return stream


def tree_of(stream):
    """The tree that the deeds of a stream make from a new one; None if it is broken or a deed is refused."""
    deeds = deeds_of(stream)
    if deeds is None:
        return None
    tree = new_tree()
    for deed in deeds:
        if ask(tree, deed)[0] == "no":
            return None
    return tree


def parts_of(stream):
    """The list of the parts, tuples of 7 words."""
    parts = [tuple(stream[at:at + _SIZE]) for at in range(0, len(stream), _SIZE)]
    return [part + (0,) * (_SIZE - len(part)) for part in parts]
