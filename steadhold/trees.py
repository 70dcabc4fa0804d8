"""Trees of files: plain values, and the requests that read and change them."""

from steadhold.bounds import is_between
from steadhold.frames import is_word

MOST_WORDS = 48


def new_tree():
    """A top directory without names."""
    return {"names": {}}


def is_name(value):
    """True if the value is a word other than 0; it may be anything."""
    return is_word(value) and value != 0


def is_directory(part):
    """True if the part of a tree is a directory."""
    return "names" in part


def is_request(value):
    """True if the value is a request of the table; it may be anything."""
    if not isinstance(value, tuple) or len(value) < 2 or not isinstance(value[0], str):
        return False
    are_parts = _PARTS.get(value[0])
    if are_parts is None or not _is_path(value[1]):
        return False
    return are_parts(value[2:])


def _is_path(value):
    return isinstance(value, tuple) and all([is_name(name) for name in value])


def _is_number(value):
    return is_between(value, 0, MOST_WORDS)


def _are_words(value):
    if not isinstance(value, tuple) or not is_between(len(value), 1, MOST_WORDS):
        return False
    return all([is_word(word) for word in value])


def _are_none(parts):
    return len(parts) == 0


def _is_one_kind(parts):
    return len(parts) == 1 and isinstance(parts[0], str) and parts[0] in ("dir", "file")


def _is_one_number(parts):
    return len(parts) == 1 and _is_number(parts[0])


def _are_two_numbers(parts):
    return len(parts) == 2 and _is_number(parts[0]) and _is_number(parts[1])


def _are_place_and_words(parts):
    return len(parts) == 2 and _is_number(parts[0]) and _are_words(parts[1])


# For each word of a request what tells whether the parts behind the path are right.
_PARTS = {
    "make": _is_one_kind,
    "put": _are_place_and_words,
    "get": _are_two_numbers,
    "size": _are_none,
    "shrink": _is_one_number,
    "drop": _are_none,
    "list": _are_none,
}


def part_at(tree, path):
    """The part of the tree with this path, or None."""
    part = tree
    for name in path:
        if part is None or not is_directory(part):
            return None
        part = part["names"].get(name)
    return part


def ask(tree, request):
    """The answer to a request of the table, which may change the tree."""
    word, path, parts = request[0], request[1], request[2:]
    if word == "make":
        return _make(tree, path, parts[0])
    part = part_at(tree, path)
    if part is None:
        return ("no", "path")
    if word == "drop":
        return _drop(tree, path, part)
    if word == "list":
        return _list(part)
    if is_directory(part):
        return ("no", "dir")
    return _ask_file(part["words"], word, parts)


def _make(tree, path, kind):
    around = part_at(tree, path[:-1])
    if not path or around is None or not is_directory(around):
        return ("no", "path")
    if path[-1] in around["names"]:
        return ("no", "there")
    around["names"][path[-1]] = new_tree() if kind == "dir" else {"words": []}
    return ("ok", None)


def _drop(tree, path, part):
    if not path:
        return ("no", "path")
    if is_directory(part) and part["names"]:
        return ("no", "full")
    around = part_at(tree, path[:-1])
    del around["names"][path[-1]]
    return ("ok", None)


def _list(part):
    if not is_directory(part):
        return ("no", "file")
    return ("ok", tuple(sorted(part["names"])))


def _ask_file(words, word, parts):
    if word == "put":
        return _put(words, parts[0], parts[1])
    if word == "get":
        return ("ok", tuple(words[parts[0]:parts[0] + parts[1]]))
    if word == "shrink":
        del words[parts[0]:]
        return ("ok", None)
    return ("ok", len(words))


def _put(words, offset, new):
    if offset + len(new) > MOST_WORDS:
        return ("no", "long")
    words.extend([0] * (offset - len(words)))
    words[offset:offset + len(new)] = list(new)
    return ("ok", None)


def copied(tree):
    """A copy that shares nothing with the tree."""
    copy = {}
    ahead = [(tree, copy)]
    while ahead:
        old, new = ahead.pop()
        if not is_directory(old):
            new["words"] = list(old["words"])
            continue
        new["names"] = {name: {} for name in old["names"]}
        ahead.extend([(old["names"][name], new["names"][name]) for name in old["names"]])
    return copy
