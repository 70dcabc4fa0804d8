"""Library A: files whose tree stands in nodes and data blocks; a sync writes what has changed beside the old."""

from steadhold.frames import WORDS
from steadhold.machines import Value
from steadhold.nodes import FILE, Draft, ended_nodes, many_blocks, places_of, words_of_file
from steadhold.syncing import Reading, Sync, led_to, written_out
from steadhold.trees import ask, copied, is_request, new_tree

NODE = (
    (((0, 255, 1),), 1, 1, "own"),
    (((0, 255, 1),), 3, 1, "own"),
    (((0, 255, 1),), 5, 1, "own"),
    (((0, 255, 1),), 7, 1, "own"),
    (((0, 255, 2),), 2, 6, 0),
)


def tree_at(table, block):
    """The part of the tree whose first node is in this block."""
    if table[block][0] == FILE:
        return {"words": words_of_file(table, block)}
    places = places_of(table, block)
    return {"names": {name: tree_at(table, table[node][at]) for name, (node, at) in places.items()}}


class MountA:
    """A machine that reads what lasts and ends with an AFiles."""

    def __init__(self, environment):
        self._environment = environment
        self._reading = Reading(environment, NODE)
        self._files = None

    def request(self):
        """Read the forest, then end."""
        if self._files is None:
            return ("call", self._reading)
        return ("end", self._files)

    def accept(self, result):
        """The type's number and the table of the blocks."""
        self._files = AFiles(self._environment, result[0], result[1])


class AFiles:
    """The tree, and what lasts of it: a table from the blocks of the forest to their words."""

    def __init__(self, environment, kind, table):
        self._environment = environment
        self._kind = kind
        self._table = dict(table)
        self._first = table[environment][0]
        self._lasting = tree_at(table, self._first) if self._first != 0 else None
        self._next_table = {}
        self._next_first = 0
        self.tree = new_tree() if self._lasting is None else copied(self._lasting)

    def ask(self, request):
        """A machine that ends with the answer to a request, which may be anything."""
        if is_request(request):
            return Value(ask(self.tree, request))
        if request != ("sync",):
            return Value(("no", "request"))
        if self.tree == self._lasting:
            return Value(("ok", None))
        return Sync(self, many_blocks(self.tree, self._lasting))

    def requests_for(self, blocks):
        """The requests by which the tree is written into these new blocks."""
        draft = Draft(blocks, self._table, self._kind)
        first = draft.add(self.tree, self._lasting, self._first)
        ended = self._ended()
        table = dict(self._table)
        table.update(draft.words)
        requests = [("fill", block, draft.kinds[block]) for block in blocks]
        requests.extend([("alter", ((block, draft.words[block]),)) for block in blocks])
        requests.extend(_moved(table, draft.moves))
        requests.extend(written_out(blocks))
        requests.extend([("alter", ((node, (0,) * WORDS),)) for node in ended])
        self._next_table = table
        self._next_first = first
        return requests + led_to(self._environment, first, self._kind)

    def note_synced(self):
        """What was planned lasts."""
        self._first = self._next_first
        self._table = self._next_table
        self._lasting = copied(self.tree)

    def _ended(self):
        if self._lasting is None:
            return []
        return ended_nodes(self.tree, self._lasting, self._table, self._first)


def _moved(table, moves):
    """The requests that move parts from old nodes to new ones; the table gets the words behind them."""
    requests = []
    for old, at, new, to in moves:
        part = table[old][at]
        table[old] = _with(_with(table[old], at - 1, 0), at, 0)
        table[new] = _with(table[new], to, part)
        requests.append(("alter", ((old, table[old]), (new, table[new]))))
    return requests


def _with(words, at, word):
    """The words with another one at this index."""
    return words[:at] + (word,) + words[at + 1:]
