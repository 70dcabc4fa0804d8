"""The memory of processes: the pages of their slots, which share frames behind a fork until one is written."""

from steadhold.frames import WORDS
from steadhold.processes import SLOTS

MOST_PAGES = 6

_SPARE = 31


def virtual_page(slot, page):
    """The environment's page that is this page of the slot."""
    return MOST_PAGES * slot + page


class Memory:
    """The frames to which the pages of the slots lead, and how many frames the library holds altogether."""

    def __init__(self, share):
        self._share = share
        self._pages = {slot: [] for slot in range(SLOTS)}
        self._held = 0

    def pages(self, slot):
        """The list of the frames of the slot's pages, empty if there is no such slot."""
        return list(self._pages.get(slot, []))

    def users(self, frame):
        """How many pages lead to the frame."""
        return sum([pages.count(frame) for pages in self._pages.values()])

    def held(self):
        """How many frames the library holds, those of pipes too."""
        return self._held

    def is_full(self):
        """True if the library holds as many frames as its share."""
        return self._held >= self._share

    def note_taken(self):
        """The library holds a frame more."""
        self._held += 1

    def note_dropped(self):
        """The library holds a frame less."""
        self._held -= 1

    def may_grow(self, slot):
        """True if there is such a slot, and it has fewer pages than it may have."""
        return slot in self._pages and len(self._pages[slot]) < MOST_PAGES

    def lead(self, slot, page, frame):
        """Lead a page of the slot, or the first one that it has not, to the frame."""
        self._pages[slot][page:page + 1] = [frame]

    def let_go(self, slot):
        """The slot has no pages any more."""
        self._pages[slot] = []

    def page_to(self, frame):
        """The first virtual page that leads to the frame, which has one."""
        slots = [slot for slot, pages in self._pages.items() if frame in pages]
        return virtual_page(slots[0], self._pages[slots[0]].index(frame))


class Read:
    """Ends with the word at an address of the slot, or None."""

    def __init__(self, memory, slot, address):
        self._memory = memory
        self._slot = slot
        self._page = address // WORDS
        self._index = address % WORDS
        self._is_read = False
        self._word = None

    def request(self):
        """Load the word."""
        if self._is_read or self._page >= len(self._memory.pages(self._slot)):
            return ("end", self._word)
        return ("load", virtual_page(self._slot, self._page), self._index)

    def accept(self, result):
        """The answer with the word."""
        self._is_read = True
        self._word = result[1]


class Own:
    """Gives a page of the slot a frame of its own; ends with True, None (no such page) or "full"."""

    def __init__(self, memory, slot, page):
        self._memory = memory
        self._slot = slot
        self._page = page
        self._ahead = []
        self._is_refused = False

    def request(self):
        """Take a frame if the page shares its own, then copy the words and lead the page to it."""
        if self._ahead:
            return self._ahead[0]
        pages = self._memory.pages(self._slot)
        if self._page >= len(pages):
            return ("end", None)
        if self._memory.users(pages[self._page]) == 1:
            return ("end", True)
        if self._memory.is_full() or self._is_refused:
            return ("end", "full")
        return ("take",)

    def accept(self, result):
        """The answer to the last request."""
        if not self._ahead:
            self._plan(result)
            return
        done = self._ahead.pop(0)
        if done[0] == "load":
            self._ahead.insert(0, ("store", _SPARE, done[2], result[1]))
        elif done[0] == "map" and done[1] == virtual_page(self._slot, self._page):
            self._note_own(done[2])

    def _plan(self, answer):
        if answer[0] == "no":
            self._is_refused = True
            return
        self._memory.note_taken()
        page, frame = virtual_page(self._slot, self._page), answer[1]
        loads = [("load", page, index) for index in range(WORDS)]
        self._ahead = [("map", _SPARE, frame, "rw")] + loads + [("unmap", _SPARE), ("map", page, frame, "rw")]

    def _note_own(self, frame):
        """The page leads to its own frame; the page that is left alone with the old one may write it again."""
        old = self._memory.pages(self._slot)[self._page]
        self._memory.lead(self._slot, self._page, frame)
        if self._memory.users(old) == 1:
            self._ahead.append(("map", self._memory.page_to(old), old, "rw"))


class Write:
    """Gives the word at an address of the slot another one; ends with True, None (no such address) or "full"."""

    def __init__(self, memory, slot, address, word):
        self._own = Own(memory, slot, address // WORDS)
        self._store = ("store", virtual_page(slot, address // WORDS), address % WORDS, word)
        self._is_stored = False

    def request(self):
        """What gives the page a frame of its own, then the store."""
        if self._is_stored:
            return ("end", True)
        wanted = self._own.request()
        return self._store if wanted == ("end", True) else wanted

    def accept(self, result):
        """The answer to the last request."""
        if self.request() == self._store:
            self._is_stored = True
        else:
            self._own.accept(result)


class Grow:
    """Gives the slot a page more; ends with the number of its words, None (it has 6 pages) or "full"."""

    def __init__(self, memory, slot):
        self._memory = memory
        self._slot = slot
        self._frame = None
        self._value = None
        self._has_ended = False

    def request(self):
        """Take a frame, and map it."""
        if self._has_ended:
            return ("end", self._value)
        if self._frame is not None:
            return ("map", virtual_page(self._slot, len(self._memory.pages(self._slot))), self._frame, "rw")
        if not self._memory.may_grow(self._slot):
            return ("end", None)
        return ("end", "full") if self._memory.is_full() else ("take",)

    def accept(self, result):
        """The answer to the last request."""
        if self._frame is not None:
            many = len(self._memory.pages(self._slot))
            self._memory.lead(self._slot, many, self._frame)
            self._end(WORDS * (many + 1))
        elif result[0] == "no":
            self._end("full")
        else:
            self._memory.note_taken()
            self._frame = result[1]

    def _end(self, value):
        self._has_ended = True
        self._value = value


class Fork:
    """Leads the pages of a new slot to the frames of an old one; ends with None."""

    def __init__(self, memory, old, new):
        self._memory = memory
        self._old = old
        self._new = new
        self._page = 0
        self._is_old_mapped = False

    def request(self):
        """Map each page with "r", first that of the old slot, then that of the new one."""
        frames = self._memory.pages(self._old)
        if self._page == len(frames):
            return ("end", None)
        slot = self._new if self._is_old_mapped else self._old
        return ("map", virtual_page(slot, self._page), frames[self._page], "r")

    def accept(self, result):
        """The answer to the last request."""
        if self._is_old_mapped:
            frame = self._memory.pages(self._old)[self._page]
            self._memory.lead(self._new, self._page, frame)
            self._page += 1
        self._is_old_mapped = not self._is_old_mapped


class Clear:
    """Takes the pages of a slot away, and drops the frames to which no page leads any more; ends with None."""

    def __init__(self, memory, slot):
        self._memory = memory
        self._slot = slot
        self._page = 0
        self._ahead = []

    def request(self):
        """Unmap all pages; then drop frames, and map those that only one page is left to."""
        if self._page < len(self._memory.pages(self._slot)):
            return ("unmap", virtual_page(self._slot, self._page))
        return self._ahead[0] if self._ahead else ("end", None)

    def accept(self, result):
        """The answer to the last request."""
        if self._ahead:
            done = self._ahead.pop(0)
            if done[0] == "drop":
                self._memory.note_dropped()
            return
        self._page += 1
        frames = self._memory.pages(self._slot)
        if self._page == len(frames):
            self._memory.let_go(self._slot)
            for frame in frames:
                self._ahead.extend(self._behind(frame))

    def _behind(self, frame):
        """The requests for a frame to which a page less leads."""
        users = self._memory.users(frame)
        if users == 0:
            return [("drop", frame)]
        if users == 1:
            return [("map", self._memory.page_to(frame), frame, "rw")]
        return []
