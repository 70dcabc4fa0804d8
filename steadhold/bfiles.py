"""Library B: files whose deeds stand in a chain of segments; a sync adds segments, or writes an image anew."""

from steadhold.machines import Value
from steadhold.segments import DEEDS, image_of, parts_of, tree_of, written
from steadhold.syncing import Reading, Sync, led_to, written_out
from steadhold.trees import ask, is_request

SEGMENT = (((), 0, 1, "own"),)


def chain_of(table, block):
    """The list of the segments of the chain that begins in this block, none if it is 0."""
    chain = []
    while block != 0:
        chain.append(block)
        block = table[block][0]
    return chain


def stream_of(table, block):
    """The stream of the chain that begins in this block."""
    return [word for segment in chain_of(table, block) for word in table[segment][1:]]


class MountB:
    """A machine that reads what lasts and ends with a BFiles."""

    def __init__(self, environment):
        self._environment = environment
        self._reading = Reading(environment, SEGMENT)
        self._files = None

    def request(self):
        """Read the forest, then end."""
        if self._files is None:
            return ("call", self._reading)
        return ("end", self._files)

    def accept(self, result):
        """The type's number and the table of the blocks."""
        self._files = BFiles(self._environment, result[0], result[1])


class BFiles:
    """The tree, the stream of the deeds since the last sync, and the segments that last."""

    def __init__(self, environment, kind, table):
        first = table[environment][0]
        self._environment = environment
        self._kind = kind
        # A dict from the segments that last to their parts, in the order of the chain.
        self._parts = {segment: table[segment][1:] for segment in chain_of(table, first)}
        self._next_parts = {}
        self._stream = []
        self.tree = tree_of(stream_of(table, first))

    def ask(self, request):
        """A machine that ends with the answer to a request, which may be anything."""
        if is_request(request):
            return Value(self._ask_tree(request))
        if request != ("sync",):
            return Value(("no", "request"))
        if not self._stream:
            return Value(("ok", None))
        return Sync(self, len(self._new_parts()))

    def requests_for(self, blocks):
        """The requests by which the new parts are written into these new blocks."""
        parts = dict(zip(blocks, self._new_parts()))
        requests = self._segments_written(parts)
        first = blocks[0] if blocks else 0
        if self._is_image_due():
            self._next_parts = parts
            return requests + self._chain_undone() + led_to(self._environment, first, self._kind)
        self._next_parts = dict(self._parts)
        self._next_parts.update(parts)
        if not self._parts:
            return requests + led_to(self._environment, first, self._kind)
        last = list(self._parts)[-1]
        requests.append(("alter", ((last, (first,) + self._parts[last]),)))
        return requests + written_out([last])

    def note_synced(self):
        """What was planned lasts."""
        self._parts = self._next_parts
        self._stream = []

    def _ask_tree(self, request):
        answer = ask(self.tree, request)
        if answer[0] == "ok" and request[0] in DEEDS:
            self._stream.extend(written(request))
        return answer

    def _is_image_due(self):
        """True if the chain would become too long beside the image of the tree."""
        many = len(self._parts) + len(parts_of(self._stream))
        return many > 2 * len(parts_of(image_of(self.tree))) + 4

    def _new_parts(self):
        return parts_of(image_of(self.tree) if self._is_image_due() else self._stream)

    def _segments_written(self, parts):
        """The requests that write new segments, from the last one to the first, each leading to the next one."""
        requests = []
        following = 0
        backwards = list(parts)[::-1]
        for block in backwards:
            requests.append(("fill", block, self._kind))
            requests.append(("alter", ((block, (following,) + parts[block]),)))
            requests.append(("flush", block))
            following = block
        return requests + [("lasts", block) for block in backwards]

    def _chain_undone(self):
        """The requests by which the old segments own nothing, from the last one but one to the first."""
        backwards = list(self._parts)[::-1]
        return [("alter", ((segment, (0,) + self._parts[segment]),)) for segment in backwards[1:]]
