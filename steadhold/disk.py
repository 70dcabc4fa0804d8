"""The disk: blocks of words that last, and the queue of the operations that wait."""

from steadhold.bounds import is_between, is_index
from steadhold.errors import NotValid
from steadhold.frames import WORDS, is_word
from steadhold.slices import is_environment

_LEAST_BLOCKS = 24
_MOST_BLOCKS = 64


def is_words(value):
    """True if the value is a tuple of 8 words; it may be anything."""
    if not isinstance(value, tuple) or len(value) != WORDS:
        return False
    return all([is_word(word) for word in value])


class Disk:
    """The words of the blocks, and the queue."""

    def __init__(self, blocks):
        if not is_between(blocks, _LEAST_BLOCKS, _MOST_BLOCKS):
            raise NotValid()
        self.blocks = blocks
        self._words = [(0,) * WORDS for _ in range(blocks)]
        self._queue = []

    def words(self, block):
        """The tuple of the words that last."""
        return self._words[block]

    def queue(self):
        """The list of the operations that wait, the eldest first."""
        return list(self._queue)

    def waits(self, block):
        """True if an operation of the block waits."""
        return any([operation[1] == block for operation in self._queue])

    def add(self, operation):
        """Let an operation wait."""
        if not _is_operation(operation, self.blocks) or self.waits(operation[1]):
            raise NotValid()
        self._queue.append(operation)

    def do(self, index):
        """Do a waiting operation; the tuple (operation, words of its block behind it), or None if none waits."""
        if not self._queue:
            return None
        operation = self._queue.pop(index % len(self._queue))
        self._carry_out(operation)
        return (operation, self._words[operation[1]])

    def cut(self, choices):
        """The power is cut: the writes with an odd choice are done, all else that waits is gone."""
        for operation, choice in zip(self._queue, choices):
            if choice % 2 == 1:
                self._carry_out(operation)
        self._queue = []

    def image(self):
        """The list of the words of all blocks."""
        return list(self._words)

    def _carry_out(self, operation):
        if operation[0] == "write":
            self._words[operation[1]] = operation[2]


def disk_from(image):
    """A disk with these words and an empty queue."""
    if not isinstance(image, list) or not all([is_words(words) for words in image]):
        raise NotValid()
    disk = Disk(len(image))
    disk._words = list(image)
    return disk


def _is_operation(value, blocks):
    """True if the value is a write or a read of one of so many blocks."""
    if not isinstance(value, tuple) or len(value) < 3:
        return False
    if not is_index(value[1], blocks) or not is_environment(value[-1]):
        return False
    if len(value) == 3:
        return value[0] == "read"
    return len(value) == 4 and value[0] == "write" and is_words(value[2])
