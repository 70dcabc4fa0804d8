"""A plain model of part blocks, written with sets and recursion, to which the program is compared."""

import random


def is_int(value):
    return isinstance(value, int) and not isinstance(value, bool)


def is_words(value):
    return isinstance(value, tuple) and len(value) == 8 and all(is_int(w) and 0 <= w < 2 ** 32 for w in value)


class Fault(Exception):
    """The words lead to no forest."""


def forest_of(root, words_of, types, extra=()):
    """The forest as a dict; a Fault if a block is reached twice or is ill."""
    found = {}

    def visit(block, owner, kind):
        if block in found:
            raise Fault("twice")
        found[block] = (owner, kind)
        owned = () if kind is None else types.owned(kind, words_of(block))
        if owned is None:
            raise Fault("ill")
        for other, told in owned:
            visit(other, block, told)

    visit(root, None, 1)
    for block, kind in extra:
        visit(block, None, kind)
    return found


class Model:
    """Blocks as the document says them, over its own disk."""

    def __init__(self, many, shares, types):
        self.many, self.shares, self.types = many, shares, types
        self.lasting = {block: (0,) * 8 for block in range(many)}
        self.queue = []
        self.begin()

    def begin(self):
        self.buffers = {}
        self.filled = {}
        self.reserved_by = {}
        self.fresh = set()
        for e in range(4):
            self.fresh |= set(self.lasting_forest(e))

    def lasting_forest(self, e, changed=None):
        words = {**self.lasting, **(changed or {})}
        return forest_of(e, words.__getitem__, self.types)

    def memory_forest(self, e):
        mine = sorted(b for b in self.reserved_by if self.reserved_by[b] == e)
        words = {**self.lasting, **self.buffers}
        return forest_of(e, words.__getitem__, self.types, [(b, self.filled.get(b)) for b in mine])

    def is_linking(self, e, block, words):
        try:
            return self.lasting_forest(e, {block: words}) != self.lasting_forest(e)
        except Fault:
            return True

    def linking_of(self, e):
        return [op for op in self.queue if op[0] == "write" and op[-1] == e and self.is_linking(e, op[1], op[2])]

    def charged(self, e):
        found = set(self.lasting_forest(e)) | set(self.memory_forest(e))
        for op in self.linking_of(e):
            found |= set(self.lasting_forest(e, {op[1]: op[2]}))
        found |= {op[1] for op in self.queue if op[-1] == e}
        return sorted(found - {0, 1, 2, 3})

    def free(self):
        taken = set()
        for e in range(4):
            assert not taken & set(self.charged(e)), "a block is charged to two"
            taken |= set(self.charged(e))
        return sorted(set(range(4, self.many)) - taken)

    def waits(self, block):
        return [op for op in self.queue if op[1] == block]

    def has_buffer(self, e, block):
        return is_int(block) and block in self.buffers and block in self.memory_forest(e)

    def holds(self, e, block):
        return is_int(block) and self.reserved_by.get(block) == e

    def request(self, e, request):
        parts = {
            "reserve": 0, "unreserve": 1, "fill": 2, "fetch": 1, "words": 1, "forget": 1, "alter": 1, "flush": 1,
            "lasts": 1, "charged": 0,
        }
        if not isinstance(request, tuple) or not request or request[0] not in parts:
            return ("no", "form")
        if len(request) != parts[request[0]] + 1:
            return ("no", "form")
        return getattr(self, "ask_" + request[0])(e, *request[1:])

    def ask_charged(self, e):
        return ("ok", len(self.charged(e)))

    def ask_reserve(self, e):
        free = self.free()
        lacks = [max(0, self.shares[o] - len(self.charged(o))) for o in range(4)]
        if len(self.charged(e)) >= self.shares[e] and len(free) <= sum(lacks):
            return ("no", "full")
        self.reserved_by[free[0]] = e
        self.fresh.discard(free[0])
        return ("ok", free[0])

    def ask_unreserve(self, e, block):
        if not self.holds(e, block):
            return ("no", "held")
        if self.waits(block):
            return ("no", "busy")
        if [b for b, row in self.memory_forest(e).items() if row[0] == block]:
            return ("no", "owns")
        del self.reserved_by[block]
        self.filled.pop(block, None)
        self.buffers.pop(block, None)
        return ("ok", None)

    def ask_fill(self, e, block, kind):
        if not self.holds(e, block):
            return ("no", "held")
        if not is_int(kind) or kind == 1 or not 0 <= kind < self.types.count():
            return ("no", "type")
        if block in self.filled:
            return ("no", "buffer")
        self.filled[block] = kind
        self.buffers[block] = (0,) * 8
        return ("ok", None)

    def ask_fetch(self, e, block):
        if not is_int(block) or block not in self.memory_forest(e):
            return ("no", "held")
        if block in self.buffers:
            return ("ok", "here")
        if block not in self.fresh:
            return ("no", "new")
        if [op for op in self.waits(block) if op[0] == "write"]:
            return ("no", "busy")
        if not self.waits(block):
            self.queue.append(("read", block, e))
        return ("ok", "wait")

    def ask_words(self, e, block):
        return ("ok", self.buffers[block]) if self.has_buffer(e, block) else ("no", "buffer")

    def ask_forget(self, e, block):
        if not self.has_buffer(e, block):
            return ("no", "buffer")
        if self.waits(block):
            return ("no", "busy")
        if block not in self.fresh:
            return ("no", "new")
        if self.buffers[block] != self.lasting[block]:
            return ("no", "changed")
        del self.buffers[block]
        return ("ok", None)

    def ask_lasts(self, e, block):
        if not self.has_buffer(e, block):
            return ("no", "buffer")
        return ("ok", self.buffers[block] == self.lasting[block] and not self.waits(block))

    def ask_flush(self, e, block):
        if not self.has_buffer(e, block):
            return ("no", "buffer")
        words = self.buffers[block]
        if self.waits(block) or self.linking_of(e):
            return ("no", "busy")
        if self.is_linking(e, block, words):
            if [op for op in self.queue if op[-1] == e]:
                return ("no", "busy")
            try:
                forest = self.lasting_forest(e, {block: words})
            except Fault:
                return ("no", "forest")
            if not set(forest) <= self.fresh or not set(forest) - {e} <= set(self.charged(e)):
                return ("no", "forest")
        self.queue.append(("write", block, words, e))
        return ("ok", None)

    def ask_alter(self, e, rows):
        if not isinstance(rows, tuple) or len(rows) not in (1, 2):
            return ("no", "form")
        if not all(isinstance(row, tuple) and len(row) == 2 and is_words(row[1]) for row in rows):
            return ("no", "form")
        if len(rows) == 2 and rows[0][0] == rows[1][0] and type(rows[0][0]) is type(rows[1][0]):
            return ("no", "form")
        if not all(self.has_buffer(e, block) for block, _ in rows):
            return ("no", "buffer")
        word = self.alter_fault(e, rows)
        if word:
            return ("no", word)
        before, behind = self.before_and_behind(e, rows)
        self.buffers.update(dict(rows))
        for block, _ in behind:
            if block not in dict(before):
                del self.reserved_by[block]
                self.filled.pop(block)
        for block, _ in before:
            if block not in dict(behind):
                self.buffers.pop(block, None)
        return ("ok", None)

    def before_and_behind(self, e, rows):
        forest = self.memory_forest(e)
        before = [p for b, _ in rows for p in self.types.owned(forest[b][1], self.buffers[b])]
        behind = [p for b, words in rows for p in self.types.owned(forest[b][1], words)]
        return before, behind

    def below(self, e, block):
        """All that the block owns in memory, directly or further on."""
        forest = self.memory_forest(e)
        found = set()
        for other in forest:
            above = forest[other][0]
            while above is not None:
                if above == block:
                    found.add(other)
                above = forest[above][0]
        return found

    def alter_fault(self, e, rows):
        forest = self.memory_forest(e)
        altered = {block for block, _ in rows}
        if any(self.types.owned(forest[b][1], words) is None for b, words in rows):
            return "ill"
        before, behind = self.before_and_behind(e, rows)
        if len({b for b, _ in behind}) != len(behind):
            return "twice"
        if any(b == c and k != q for b, k in before for c, q in behind):
            return "types"
        for b, words in rows:
            old = {c for c, _ in self.types.owned(forest[b][1], self.buffers[b])}
            for c, kind in self.types.owned(forest[b][1], words):
                if c in old:
                    continue
                if c in altered or self.below(e, c) & altered:
                    return "takes"
                if c not in {b for b, _ in before}:
                    if self.reserved_by.get(c) != e or c not in self.filled or self.filled[c] != kind:
                        return "takes"
        for c, _ in before:
            if c not in {b for b, _ in behind}:
                if c in altered or [b for b, row in forest.items() if row[0] == c]:
                    return "gives"
        return None

    def do(self, index):
        if not self.queue:
            return False
        op = self.queue.pop(index % len(self.queue))
        if op[0] == "write":
            self.lasting[op[1]] = op[2]
            self.fresh.add(op[1])
        elif op[1] in self.memory_forest(op[2]):
            self.buffers[op[1]] = self.lasting[op[1]]
        return True

    def cut(self, choices):
        for at, op in enumerate(self.queue):
            if op[0] == "write" and at < len(choices) and choices[at] % 2 == 1:
                self.lasting[op[1]] = op[2]
        self.queue = []
        self.begin()


class Wild:
    """Draws requests that are often answered with ok."""

    def __init__(self, seed, model):
        self.random = random.Random(seed)
        self.model = model

    def block(self, e, word):
        """A block of the environment, mostly one for which the word has a meaning; sometimes no block at all."""
        draw = self.random
        known = list(self.model.memory_forest(e))
        if word in ("flush", "alter", "forget", "words", "lasts") and draw.random() < 0.8:
            known = [b for b in known if b in self.model.buffers] or known
        if word in ("fill", "unreserve") and draw.random() < 0.8:
            known = [b for b in known if b in self.model.reserved_by] or known
        if draw.random() < 0.95:
            return draw.choice(known)
        return draw.choice([-1, self.model.many, True, False, None, "x", 2 ** 40, *range(self.model.many)])

    def root_words(self, e):
        draw = self.random
        filled = [b for b in self.model.filled if self.model.reserved_by.get(b) == e]
        if not filled or draw.random() < 0.2:
            return (0, draw.randrange(5), 0, 0, 0, 0, 0, 0)
        block = draw.choice(filled)
        kind = self.model.filled[block] if draw.random() < 0.9 else draw.randrange(5)
        return (block, kind, 0, 0, 0, 0, 0, 0)

    def words(self, e, block):
        """Words that differ little from the present ones, mostly by blocks of the environment."""
        draw = self.random
        if is_int(block) and block == e and draw.random() < 0.8:
            return self.root_words(e)
        words = list(self.model.buffers.get(block, (0,) * 8) if is_int(block) else (0,) * 8)
        forest = self.model.memory_forest(e)
        wanted = [b for b in self.model.filled if self.model.reserved_by.get(b) == e] or list(forest)
        for _ in range(draw.choice([0, 1, 1, 1, 2, 2, 3])):
            index = draw.choice([0, 0, 1, 1, 2, 3])
            words[index] = draw.choice([0, 0, 1, 2, *wanted, *wanted, *forest, draw.randrange(self.model.many)])
        return tuple(words)

    def move(self, e):
        """Two rows by which words go over from one block to another."""
        draw = self.random
        known = [b for b in self.model.memory_forest(e) if b in self.model.buffers and b > 3]
        if len(known) < 2:
            return (self.row(e),)
        one, other = draw.sample(known, 2)
        old, new = list(self.model.buffers[one]), list(self.model.buffers[other])
        for _ in range(draw.choice([1, 1, 2])):
            index, place = draw.randrange(4), draw.randrange(4)
            old[index], new[place] = draw.choice([0, 0, new[place], old[index]]), old[index]
        rows = ((one, tuple(old)), (other, tuple(new)))
        return rows if draw.random() < 0.5 else rows[::-1]

    def row(self, e):
        block = self.block(e, "alter")
        return (block, self.words(e, block))

    def request(self, e):
        draw = self.random
        word = draw.choice([
            "reserve", "reserve", "unreserve", "fill", "fill", "fill", "fetch", "fetch", "words", "forget", "alter",
            "alter", "alter", "alter", "move", "move", "root", "root", "flush root", "flush root", "flush", "flush",
            "flush", "flush", "lasts", "charged",
        ])
        if word in ("reserve", "charged"):
            return (word,)
        if word == "fill":
            return (word, self.block(e, word), draw.choice([0, 2, 2, 2, 3, 3, 3, 4, 1, 9, True]))
        if word == "root":
            return ("alter", ((e, self.root_words(e)),))
        if word == "flush root":
            return ("flush", e)
        if word == "move":
            return ("alter", self.move(e))
        if word == "alter":
            return (word, tuple(self.row(e) for _ in range(draw.choice([1, 1, 2]))))
        return (word, self.block(e, word))
