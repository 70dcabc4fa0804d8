"""Virtual pages: entries that lead to frames, within what the book gives."""

from steadhold.bounds import is_index
from steadhold.frames import WORDS, includes, is_word
from steadhold.slices import ENVIRONMENTS, is_environment

PAGES = 32


class Pages:
    """The entries of the pages of all environments."""

    def __init__(self, frames):
        self._frames = frames
        # For each environment a dict from pages to tuples (frame, right).
        self._entries = [{} for _ in range(ENVIRONMENTS)]

    def map(self, environment, page, frame, right):
        """Lead a page to a frame with a right that the book gives; True if the entry is made."""
        if not _is_page(environment, page):
            return False
        if not includes(self._frames.right(environment, frame), right):
            return False
        self._entries[environment][page] = (frame, right)
        return True

    def unmap(self, environment, page):
        """End the entry of a page; True if there was one."""
        if self.entry(environment, page) is None:
            return False
        del self._entries[environment][page]
        return True

    def entry(self, environment, page):
        """The tuple (frame, right) of a page, or None."""
        if not _is_page(environment, page):
            return None
        return self._entries[environment].get(page)

    def load(self, environment, page, index):
        """The word of a page, or None for a fault."""
        entry = self.entry(environment, page)
        if entry is None or not is_index(index, WORDS):
            return None
        return self._frames.read(entry[0], index)

    def store(self, environment, page, index, word):
        """Set the word of a page; True, or False for a fault."""
        entry = self.entry(environment, page)
        if entry is None or entry[1] != "rw":
            return False
        if not is_index(index, WORDS) or not is_word(word):
            return False
        self._frames.write(entry[0], index, word)
        return True

    def ended(self, environment, frame):
        """The environment holds the frame no more: all its entries that lead there fall."""
        self._let_fall(environment, [(frame, "r"), (frame, "rw")])

    def narrowed(self, environment, frame):
        """The environment may no longer write the frame: its entries that write it fall."""
        self._let_fall(environment, [(frame, "rw")])

    def _let_fall(self, environment, fallen):
        if not is_environment(environment):
            return
        entries = self._entries[environment]
        self._entries[environment] = {page: entries[page] for page in entries if entries[page] not in fallen}


def _is_page(environment, page):
    return is_environment(environment) and is_index(page, PAGES)
