"""What the tests of turns share: a stub of a Unix, whose processes make turns one by one."""

from unix_case import Files, MachineCase, Stub, mount, process_of

from steadhold.calls import Turn
from steadhold.memory import Grow, Read
from steadhold.trees import copied

FULL = 5


class TurnCase(MachineCase):
    """The process 1 is in slot 0; `turn` makes a turn of any slot."""

    KIND = "A"

    def begin(self, share=24, frames=32, block_share=60):
        super().begin(share, frames, block_share)
        files = self.run_machine(mount(self.KIND, self.E))
        self.unix = Stub(self.E, share, Files(files))
        self.table = self.unix.table
        self.one = process_of(self.table, 0)

    def setUp(self):
        self.begin()

    def state(self):
        """Everything that a turn may change, as a value."""
        table, rows = self.table, []
        for slot in range(4):
            process = table.at(slot)
            rows.append(None if process is None else (
                process.number, process.parent, process.program, process.place, tuple(process.registers),
                dict(process.ends), process.code))
        numbers = [number for number in range(1, 60) if table.opening(number) is not None]
        openings = [(number, table.opening(number).kind, table.opening(number).pipe, table.opening(number).path,
                     table.opening(number).offset) for number in numbers]
        pages = [self.unix.memory.pages(slot) for slot in range(4)]
        words = [[self.kernel.pages.load(self.E, page, at) for at in range(8)] for page in range(32)]
        sizes = [self.unix.pipes.size(pipe) for pipe in range(4)]
        return rows, openings, pages, words, sizes, dict(self.unix.ports), copied(self.unix.files.tree)

    def turn(self, instruction, registers=None, slot=0):
        """The row of a turn with this instruction; registers is a dict."""
        process = self.table.at(slot)
        if registers is not None:
            process.registers = [registers.get(at, 0) for at in range(6)]
        process.program = (instruction,)
        process.place = 0
        self.asked, self.unix.files.asked = [], []
        before = self.state()
        row = self.run_machine(Turn(self.unix, slot))
        self.assertEqual(self.asked[0], ("pass",))
        self.assertEqual(self.asked.count(("pass",)), 1)
        self.check_memory(self.unix.memory, self.unix.pipes)
        if row is None:
            self.assertEqual(self.state(), before)
            self.assertEqual(self.asked, [("pass",)])
        else:
            name = instruction[1] if instruction[0] == "call" else instruction[0]
            self.assertEqual((row[0], row[2]), (process.number, tuple(process.registers)))
            self.assertIn(row[1], (name, "full"))
            if instruction[0] not in ("jump", "if"):
                self.assertEqual(process.place, 1)
        return row

    def call(self, name, *words, slot=0):
        """The registers behind a call with r1, r2 and r3 (as many as are told), None if it waits."""
        registers = {0: 77, 1: 71, 2: 72, 3: 73, 4: 74, 5: 75}
        registers.update({at + 1: word for at, word in enumerate(words)})
        row = self.turn(("call", name), registers, slot)
        if row is None:
            return None
        self.assertEqual(row[1], name)
        return row[2]

    def ok(self, name, *words, slot=0, r1=None, r2=None):
        """The call succeeds; r1 and r2 get these words, or stay."""
        wanted = [1, 71, 72, 73, 74, 75]
        for at, word in enumerate(words):
            wanted[at + 1] = word
        wanted[1] = wanted[1] if r1 is None else r1
        wanted[2] = wanted[2] if r2 is None else r2
        self.assertEqual(self.call(name, *words, slot=slot), tuple(wanted), (name, words))

    def no(self, name, *words, slot=0):
        """The call is refused; nothing else changes."""
        wanted = [0, 71, 72, 73, 74, 75]
        for at, word in enumerate(words):
            wanted[at + 1] = word
        before = self.state()
        self.assertEqual(self.call(name, *words, slot=slot), tuple(wanted), (name, words))
        after = self.state()
        self.assertEqual(after[1:], before[1:])
        for slot, row in enumerate(before[0]):
            if row is not None:
                self.assertEqual((after[0][slot][:2], after[0][slot][5:]), (row[:2], row[5:]))

    def waits(self, name, *words, slot=0):
        self.assertIsNone(self.call(name, *words, slot=slot))

    def grow(self, slot=0, many=1):
        for _ in range(many):
            self.run_machine(Grow(self.unix.memory, slot))

    def read_memory(self, slot, address):
        return self.run_machine(Read(self.unix.memory, slot, address))

    def fork(self, slot=0):
        """The slot of a new child."""
        child = self.table.least_slot()
        self.ok("fork", slot=slot, r1=self.number_to_come())
        return child

    def number_to_come(self):
        return max([0] + [self.table.at(slot).number for slot in range(4) if self.table.at(slot)]) + 1

    def asked_files(self):
        return self.unix.files.asked

    def asked_behind(self):
        """The requests to the kernel behind the pass."""
        return self.asked[1:]
