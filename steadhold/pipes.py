"""Pipes: up to 8 words each, in a frame of their own, which are read in the order in which they were written."""

from steadhold.frames import WORDS

MOST_PIPES = 4

_FIRST_PAGE = 24


def page_of(pipe):
    """The environment's page that leads to the frame of the pipe."""
    return _FIRST_PAGE + pipe


class Pipes:
    """The pipes that there are: for each one its frame, the place of its first word, and how many words it holds."""

    def __init__(self, memory):
        self.memory = memory
        self._frames = {}
        self._heads = {}
        self._sizes = {}

    def size(self, pipe):
        """How many words the pipe holds."""
        return self._sizes.get(pipe, 0)

    def is_there(self, pipe):
        """True if there is such a pipe."""
        return pipe in self._frames

    def frame(self, pipe):
        """The frame of the pipe, or None."""
        return self._frames.get(pipe)

    def head(self, pipe):
        """The place of the first word of a pipe that is there."""
        return self._heads[pipe]

    def least_free(self):
        """The least number of a pipe that is not there, or None."""
        free = [pipe for pipe in range(MOST_PIPES) if pipe not in self._frames]
        return free[0] if free else None

    def note_made(self, pipe, frame):
        """The pipe is there, and empty."""
        self._frames[pipe] = frame
        self._heads[pipe] = 0
        self._sizes[pipe] = 0

    def note_put(self, pipe):
        """The pipe holds a word more."""
        self._sizes[pipe] += 1

    def note_first_gone(self, pipe):
        """The first word of the pipe was taken."""
        self._sizes[pipe] -= 1
        self._heads[pipe] = (self._heads[pipe] + 1) % WORDS

    def note_ended(self, pipe):
        """The pipe is not there any more."""
        del self._frames[pipe]
        del self._heads[pipe]
        del self._sizes[pipe]


class Make:
    """Makes a pipe; ends with its number, or None if there is none left or the memory is full."""

    def __init__(self, pipes):
        self._pipes = pipes
        self._frame = None
        self._pipe = None
        self._has_ended = False

    def request(self):
        """Take a frame, and map it."""
        pipe = self._pipes.least_free()
        if self._has_ended:
            return ("end", self._pipe)
        if self._frame is not None:
            return ("map", page_of(pipe), self._frame, "rw")
        if pipe is None or self._pipes.memory.is_full():
            return ("end", None)
        return ("take",)

    def accept(self, result):
        """The answer to the last request."""
        if self._frame is not None:
            self._pipe = self._pipes.least_free()
            self._pipes.note_made(self._pipe, self._frame)
            self._has_ended = True
        elif result[0] == "no":
            self._has_ended = True
        else:
            self._pipes.memory.note_taken()
            self._frame = result[1]


class Put:
    """Puts a word behind the last one of the pipe; ends with True, or False if it holds 8 words."""

    def __init__(self, pipes, pipe, word):
        self._pipes = pipes
        self._pipe = pipe
        self._word = word
        self._is_put = False

    def request(self):
        """Store the word."""
        if self._is_put:
            return ("end", True)
        size = self._pipes.size(self._pipe)
        if size == WORDS or not self._pipes.is_there(self._pipe):
            return ("end", False)
        return ("store", page_of(self._pipe), (self._pipes.head(self._pipe) + size) % WORDS, self._word)

    def accept(self, result):
        """The answer to the store."""
        self._is_put = True
        self._pipes.note_put(self._pipe)


class Take:
    """Takes the first word of the pipe; ends with it, or None if the pipe is empty."""

    def __init__(self, pipes, pipe):
        self._pipes = pipes
        self._pipe = pipe
        self._is_taken = False
        self._word = None

    def request(self):
        """Load the word."""
        if self._is_taken or self._pipes.size(self._pipe) == 0:
            return ("end", self._word)
        return ("load", page_of(self._pipe), self._pipes.head(self._pipe))

    def accept(self, result):
        """The answer with the word."""
        self._is_taken = True
        self._word = result[1]
        self._pipes.note_first_gone(self._pipe)


class End:
    """Ends the pipe: its page is unmapped, its frame dropped; ends with None."""

    def __init__(self, pipes, pipe):
        self._pipes = pipes
        self._pipe = pipe
        self._is_unmapped = False
        self._has_ended = False

    def request(self):
        """Unmap, then drop."""
        if self._has_ended or not self._pipes.is_there(self._pipe):
            return ("end", None)
        if self._is_unmapped:
            return ("drop", self._pipes.frame(self._pipe))
        return ("unmap", page_of(self._pipe))

    def accept(self, result):
        """The answer to the last request."""
        if self._is_unmapped:
            self._pipes.note_ended(self._pipe)
            self._pipes.memory.note_dropped()
            self._has_ended = True
        self._is_unmapped = True
