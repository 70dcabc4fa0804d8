"""Blocks: what the kernel knows of the disk's blocks, its buffers, and what environments may do with them."""

from steadhold.altering import all_pairs, refusal
from steadhold.bounds import is_index
from steadhold.disk import is_words
from steadhold.errors import NotValid
from steadhold.forests import grown
from steadhold.frames import WORDS, are_shares
from steadhold.owning import ROOT, ROOT_BLOCKS, Types, is_program
from steadhold.slices import ENVIRONMENTS, is_environment


def _reserve(blocks, environment):
    block = blocks.block_to_reserve(environment)
    if block is None:
        return ("no", "full")
    blocks.note_reserved(environment, block)
    return ("ok", block)


def _unreserve(blocks, environment, block):
    if not blocks.is_reserved(environment, block):
        return ("no", "held")
    if blocks.disk.waits(block):
        return ("no", "busy")
    if blocks.owned_in_memory(environment, block):
        return ("no", "owns")
    blocks.note_unreserved(environment, block)
    return ("ok", None)


def _fill(blocks, environment, block, kind):
    if not blocks.is_reserved(environment, block):
        return ("no", "held")
    if not blocks.types.is_known(kind) or kind == ROOT:
        return ("no", "type")
    if blocks.was_filled(environment, block):
        return ("no", "buffer")
    blocks.note_filled(environment, block, kind)
    return ("ok", None)


def _fetch(blocks, environment, block):
    if not is_index(block, blocks.disk.blocks) or block not in blocks.memory_forest(environment):
        return ("no", "held")
    if blocks.buffer(environment, block) is not None:
        return ("ok", "here")
    if not blocks.is_fresh(block):
        return ("no", "new")
    waiting = [operation[0] for operation in blocks.disk.queue() if operation[1] == block]
    if "write" in waiting:
        return ("no", "busy")
    if not waiting:
        blocks.disk.add(("read", block, environment))
    return ("ok", "wait")


def _words(blocks, environment, block):
    words = blocks.buffer(environment, block)
    if words is None:
        return ("no", "buffer")
    return ("ok", words)


def _forget(blocks, environment, block):
    words = blocks.buffer(environment, block)
    if words is None:
        return ("no", "buffer")
    if blocks.disk.waits(block):
        return ("no", "busy")
    if not blocks.is_fresh(block):
        return ("no", "new")
    if words != blocks.disk.words(block):
        return ("no", "changed")
    blocks.note_forgotten(environment, block)
    return ("ok", None)


def _alter(blocks, environment, rows):
    if not _are_rows(rows):
        return ("no", "form")
    if any([blocks.buffer(environment, block) is None for block, _ in rows]):
        return ("no", "buffer")
    word = blocks.alter(environment, rows)
    if word is not None:
        return ("no", word)
    return ("ok", None)


def _flush(blocks, environment, block):
    words = blocks.buffer(environment, block)
    if words is None:
        return ("no", "buffer")
    word = blocks.flush_refusal(environment, block, words)
    if word is not None:
        return ("no", word)
    blocks.disk.add(("write", block, words, environment))
    return ("ok", None)


def _lasts(blocks, environment, block):
    words = blocks.buffer(environment, block)
    if words is None:
        return ("no", "buffer")
    return ("ok", words == blocks.disk.words(block) and not blocks.disk.waits(block))


def _register(blocks, environment, program):
    if not is_program(program, blocks.types.count()):
        return ("no", "form")
    number = blocks.types.add(program, environment)
    if number is None:
        return ("no", "full")
    return ("ok", number)


def _charged(blocks, environment):
    return ("ok", len(blocks.charged(environment)))


# For each word of a request the number of its parts, the word too, and what answers it.
_REQUESTS = {
    "reserve": (1, _reserve),
    "unreserve": (2, _unreserve),
    "fill": (3, _fill),
    "fetch": (2, _fetch),
    "words": (2, _words),
    "forget": (2, _forget),
    "alter": (2, _alter),
    "flush": (2, _flush),
    "lasts": (2, _lasts),
    "register": (2, _register),
    "charged": (1, _charged),
}


def is_with_word(request):
    """True if the request is a tuple with a string first; it may be anything."""
    return isinstance(request, tuple) and len(request) > 0 and isinstance(request[0], str)


def _are_rows(value):
    """True if the value is a tuple of one or two tuples (block, words), of different blocks."""
    if not isinstance(value, tuple) or len(value) not in (1, 2):
        return False
    if not all([isinstance(row, tuple) and len(row) == 2 and is_words(row[1]) for row in value]):
        return False
    return len(value) == 1 or not _is_same(value[0][0], value[1][0])


def _is_same(one, other):
    """True if both are equal; True and False are not the blocks 1 and 0."""
    return one == other and isinstance(one, bool) == isinstance(other, bool)


class Blocks:
    """The forests, the reserved and the fresh blocks, and the buffers of all environments."""

    def __init__(self, disk, shares, types=None):
        if not are_shares(shares) or sum(shares) > disk.blocks - ROOT_BLOCKS:
            raise NotValid()
        self.disk = disk
        self.types = Types(disk.blocks) if types is None else types
        self._shares = list(shares)
        # For each environment a dict from blocks to words, and one from reserved blocks to their types, None as
        # long as they were not filled.
        self._buffers = [{} for _ in range(ENVIRONMENTS)]
        self._reserved = [{} for _ in range(ENVIRONMENTS)]
        self._fresh = {}
        for environment in range(ENVIRONMENTS):
            self._fresh.update({block: True for block in self.lasting_forest(environment)})

    def request(self, environment, request):
        """The answer to a request, which may be anything."""
        if not is_environment(environment):
            raise NotValid()
        row = _REQUESTS.get(request[0]) if is_with_word(request) else None
        if row is None or len(request) != row[0]:
            return ("no", "form")
        action = row[1]
        parts = request[1:]
        return action(self, environment, *parts)

    def do(self, index):
        """Let the disk do an operation; True if there was one."""
        done = self.disk.do(index)
        if done is None:
            return False
        operation, words = done
        block, environment = operation[1], operation[-1]
        if operation[0] == "write":
            self._fresh[block] = True
        elif block in self.memory_forest(environment):
            self._buffers[environment][block] = words
        return True

    def lasting_forest(self, environment):
        """The dict from the blocks of the lasting forest to tuples (owner or None, type)."""
        return self._growth(environment, self.disk.image())[0]

    def memory_forest(self, environment):
        """The dict from the blocks of the memory forest to tuples (owner or None, type or None)."""
        if not is_environment(environment):
            raise NotValid()
        table = self.disk.image()
        for block, words in self._buffers[environment].items():
            table[block] = words
        starts = [(environment, ROOT)] + list(self._reserved[environment].items())
        return grown(starts, table, self.types, {})[0]

    def charged(self, environment):
        """The list of the blocks that are charged to the environment, ascending."""
        lasting = self._growth(environment, self.disk.image())
        found = list(lasting[0]) + list(self.memory_forest(environment))
        for operation in self._waiting(environment):
            found.append(operation[1])
            if self._is_linking(operation, lasting):
                found.extend(list(self._growth_behind(operation)[0]))
        return [block for block in sorted(set(found)) if block >= ROOT_BLOCKS]

    def free(self):
        """The list of the blocks that are charged to nobody, ascending."""
        return self._uncharged([self.charged(environment) for environment in range(ENVIRONMENTS)])

    def reserved(self, environment):
        """The list of the blocks that the environment has reserved, ascending."""
        if not is_environment(environment):
            raise NotValid()
        return sorted(self._reserved[environment])

    def is_fresh(self, block):
        """True if a write of the block was done since it was reserved."""
        return is_index(block, self.disk.blocks) and block in self._fresh

    def is_reserved(self, environment, block):
        """True if the environment has reserved the block, which may be anything."""
        return is_index(block, self.disk.blocks) and block in self._reserved[environment]

    def was_filled(self, environment, block):
        """True if the reserved block was filled."""
        return self._reserved[environment][block] is not None

    def buffer(self, environment, block):
        """The words of the environment's buffer of the block, which may be anything, or None."""
        if not is_index(block, self.disk.blocks):
            return None
        return self._buffers[environment].get(block)

    def owned_in_memory(self, environment, block):
        """The list of the blocks that a block of the memory forest owns in memory."""
        forest = self.memory_forest(environment)
        return [other for other, row in forest.items() if row[0] == block]

    def block_to_reserve(self, environment):
        """The least free block, or None if the environment may not reserve one."""
        charged = [self.charged(other) for other in range(ENVIRONMENTS)]
        short = [max(0, share - len(blocks)) for share, blocks in zip(self._shares, charged)]
        free = self._uncharged(charged)
        # A disk can be handed over on which others have more than these shares: then a share can find no free block.
        if not free or (short[environment] == 0 and len(free) <= sum(short)):
            return None
        return free[0]

    def note_reserved(self, environment, block):
        """The block is reserved."""
        self._reserved[environment][block] = None
        self._fresh.pop(block, None)

    def note_unreserved(self, environment, block):
        """The block is not reserved any more."""
        del self._reserved[environment][block]
        self._buffers[environment].pop(block, None)

    def note_filled(self, environment, block, kind):
        """The reserved block has a buffer of zeros and a type."""
        self._reserved[environment][block] = kind
        self._buffers[environment][block] = (0,) * WORDS

    def note_forgotten(self, environment, block):
        """The buffer is gone."""
        del self._buffers[environment][block]

    def alter(self, environment, rows):
        """Give blocks with buffers new words; the word with which this is refused, or None."""
        forest = self.memory_forest(environment)
        reserved = self._reserved[environment]
        buffers = self._buffers[environment]
        present = {block: self.types.owned(forest[block][1], buffers[block]) for block, _ in rows}
        planned = {block: self.types.owned(forest[block][1], words) for block, words in rows}
        word = refusal(present, planned, forest, reserved)
        if word is not None:
            return word
        behind = dict(all_pairs(planned))
        for block in behind:
            reserved.pop(block, None)
        for block in [block for block, _ in all_pairs(present) if block not in behind]:
            buffers.pop(block, None)
        for block, words in rows:
            buffers[block] = words
        return None

    def flush_refusal(self, environment, block, words):
        """The word with which the write of a block is refused, or None."""
        waiting = self._waiting(environment)
        lasting = self._growth(environment, self.disk.image())
        if self.disk.waits(block) or any([self._is_linking(operation, lasting) for operation in waiting]):
            return "busy"
        operation = ("write", block, words, environment)
        if not self._is_linking(operation, lasting):
            return None
        if waiting:
            return "busy"
        forest, fault = self._growth_behind(operation)
        charged = self.charged(environment)
        known = [other for other in forest if other == environment or other in charged]
        if fault is not None or len(known) < len(forest) or not all([self.is_fresh(other) for other in forest]):
            return "forest"
        return None

    def _growth(self, environment, table):
        """The forest below the root by a table of words, and its first fault or None."""
        if not is_environment(environment):
            raise NotValid()
        return grown([(environment, ROOT)], table, self.types, {})

    def _growth_behind(self, operation):
        """The lasting forest of the environment, and its first fault or None, if this write were done now."""
        table = self.disk.image()
        table[operation[1]] = operation[2]
        return self._growth(operation[-1], table)

    def _is_linking(self, operation, lasting):
        """True for a write behind which the forest, or its first fault, is not what it is now."""
        if operation[0] != "write" or operation[1] not in lasting[0]:
            return False
        return self._growth_behind(operation) != lasting

    def _waiting(self, environment):
        """The operations of the environment that wait."""
        return [operation for operation in self.disk.queue() if operation[-1] == environment]

    def _uncharged(self, charged):
        """The blocks that stand in none of the lists."""
        taken = {block: True for blocks in charged for block in blocks}
        return [block for block in range(ROOT_BLOCKS, self.disk.blocks) if block not in taken]
