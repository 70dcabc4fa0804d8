"""The machines that libraries of files have in common: reading a forest, and writing a new one."""

from steadhold.frames import TOP
from steadhold.owning import DATA, ROOT, run_program


def root_words(block, kind):
    """The words of a root that leads to this block of this type, or to none if the block is 0."""
    return (0,) * 8 if block == 0 else (block, kind) + (0,) * 6


class Reading:
    """Registers a program and reads all blocks of the forest, whose type it is.

    It ends with the tuple of the number of the type and the dict from the blocks to their words.
    """

    def __init__(self, environment, program):
        self._program = program
        self._number = None
        self._ahead = [(environment, ROOT)]
        self._is_here = False
        self._table = {}

    def request(self):
        """First the type, then for each block fetch until it is here, and words."""
        if self._number is None:
            return ("register", self._program)
        if not self._ahead:
            return ("end", (self._number, dict(self._table)))
        return ("words" if self._is_here else "fetch", self._ahead[0][0])

    def accept(self, result):
        """The answer to the last request."""
        if self._number is None:
            self._number = result[1]
        elif self._is_here:
            self._note_words(result[1])
        elif result == ("ok", "here"):
            self._is_here = True
        else:
            # While one block is read the next ones can be asked for.
            self._ahead.append(self._ahead.pop(0))

    def _note_words(self, words):
        block, kind = self._ahead.pop(0)
        self._is_here = False
        self._table[block] = words
        if kind == ROOT and words[0] != 0:
            self._ahead.append((words[0], words[1]))
        elif kind not in (ROOT, DATA):
            self._ahead.extend(list(run_program(self._program, words, TOP, kind)))


class Sync:
    """Reserves so many blocks for files, and makes the requests that the files plan for them.

    The files have a method `requests_for(blocks)`, the list of these requests, and a method `note_synced()`, which
    is called when they all are done. The machine ends with the answer to the sync.
    """

    def __init__(self, files, many):
        self._files = files
        self._many = many
        self._blocks = []
        self._is_refused = False
        self._work = []
        self._at = 0
        self._plan_if_reserved()

    def request(self):
        """Reserve; give back if one was refused, or work."""
        if self._is_refused:
            return ("unreserve", self._blocks[-1]) if self._blocks else ("end", ("no", "full"))
        if len(self._blocks) < self._many:
            return ("reserve",)
        if self._at < len(self._work):
            return self._work[self._at]
        return ("end", ("ok", None))

    def accept(self, result):
        """The answer to the last request; what was not done is asked for again."""
        if not _is_done(self.request(), result):
            return
        if self._is_refused:
            self._blocks.pop()
        elif len(self._blocks) == self._many:
            self._at += 1
            if self._at == len(self._work):
                self._files.note_synced()
        elif result[0] == "ok":
            self._blocks.append(result[1])
            self._plan_if_reserved()
        else:
            self._is_refused = True

    def _plan_if_reserved(self):
        if len(self._blocks) == self._many:
            self._work = self._files.requests_for(list(self._blocks))


def _is_done(request, answer):
    """True if the request need not be made again."""
    if answer == ("no", "busy"):
        return False
    return request[0] != "lasts" or answer == ("ok", True)


def written_out(table):
    """The requests that flush all blocks of a dict and wait for them."""
    return [("flush", block) for block in table] + [("lasts", block) for block in table]


def led_to(environment, block, kind):
    """The requests that lead the root to a block of this type, or to none if the block is 0, and wait for it."""
    rows = ((environment, root_words(block, kind)),)
    return [("alter", rows)] + written_out([environment])
