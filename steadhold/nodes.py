"""Nodes: how library A writes the parts of a tree into blocks, and which blocks a change of the tree takes."""

from steadhold.frames import WORDS
from steadhold.owning import DATA
from steadhold.trees import is_directory, part_at

DIRECTORY = 1
FILE = 2

_NAMES = 3
_FIRST_NAME = 2
_FIRST_DATA = 2


def chain_of(table, block):
    """The list of the nodes of a directory, from its first one on."""
    chain = []
    while block != 0:
        chain.append(block)
        block = table[block][1]
    return chain


def places_of(table, block):
    """For each name of a directory with this first node the tuple (node, index of the word of its part)."""
    places = {}
    for node in chain_of(table, block):
        for at in range(_FIRST_NAME, WORDS, 2):
            if table[node][at] != 0:
                places[table[node][at]] = (node, at + 1)
    return places


def words_of_file(table, block):
    """The list of the words of a file with this node."""
    words = []
    for data in table[block][_FIRST_DATA:]:
        if data != 0:
            words.extend(table[data])
    return words[:table[block][1]]


def many_blocks(tree, before):
    """How many new blocks a tree takes if this one lasts, None if none does."""
    many = 0
    ahead = [(tree, before)]
    while ahead:
        part, old = ahead.pop()
        if part == old:
            continue
        if is_directory(part):
            many += max(1, _parts_of(len(part["names"]), _NAMES))
            ahead.extend([(below, _below(old, name)) for name, below in part["names"].items()])
        else:
            many += 1 + _parts_of(len(part["words"]), WORDS)
    return many


def _parts_of(many, size):
    """How many parts of this size are needed for so many."""
    return (many + size - 1) // size


def _below(part, name):
    """What the part has of this name, or None."""
    return part_at(part, (name,))


class Draft:
    """The new blocks for a tree.

    `words` is the dict from the new blocks to their words, but for the parts that are moved there from old nodes,
    `kinds` the one to their types; `moves` is the list of the tuples (old node, index, new node, index).
    """

    def __init__(self, blocks, table, kind):
        self._blocks = blocks
        self._table = table
        self._kind = kind
        self.words = {}
        self.kinds = {}
        self.moves = []

    def add(self, part, old, old_block):
        """Write a part that differs from the old one, whose first node is old_block (0: none); its first node."""
        if is_directory(part):
            return self._add_directory(part["names"], old, old_block)
        return self._add_file(part["words"])

    def _next_block(self, kind):
        block = self._blocks[len(self.words)]
        self.words[block] = (0,) * WORDS
        self.kinds[block] = kind
        return block

    def _add_file(self, words):
        node = self._next_block(self._kind)
        blocks = []
        for at in range(0, len(words), WORDS):
            data = tuple(words[at:at + WORDS])
            blocks.append(self._next_block(DATA))
            self.words[blocks[-1]] = data + (0,) * (WORDS - len(data))
        empty = WORDS - _FIRST_DATA - len(blocks)
        self.words[node] = (FILE, len(words)) + tuple(blocks) + (0,) * empty
        return node

    def _add_directory(self, names, old, old_block):
        nodes = [self._next_block(self._kind) for _ in range(max(1, _parts_of(len(names), _NAMES)))]
        places = places_of(self._table, old_block) if old is not None and is_directory(old) else {}
        rows = [[DIRECTORY, following] + [0] * (WORDS - 2) for following in nodes[1:] + [0]]
        for count, name in enumerate(sorted(names)):
            node, row = nodes[count // _NAMES], rows[count // _NAMES]
            at = _FIRST_NAME + 2 * (count % _NAMES)
            row[at] = name
            old_node, old_at = places.get(name, (0, 0))
            if names[name] == _below(old, name):
                self.moves.append((old_node, old_at, node, at + 1))
            else:
                first = self._table[old_node][old_at] if old_node != 0 else 0
                row[at + 1] = self.add(names[name], _below(old, name), first)
        for node, row in zip(nodes, rows):
            self.words[node] = tuple(row)
        return nodes[0]


def ended_nodes(part, old, table, block):
    """The old part's nodes, from this first one on, that a new part does not keep; what is below comes first.

    The new part differs from the old one; it is None if there is none.
    """
    if not is_directory(old):
        return [block]
    ended = []
    for name, (node, at) in places_of(table, block).items():
        new, before = _below(part, name), _below(old, name)
        if new != before:
            ended.extend(ended_nodes(new, before, table, table[node][at]))
    return ended + chain_of(table, block)[::-1]
