"""[66]: the calls of files and of the net."""

import unittest

from calls_case import TurnCase
from unix_case import TOP, Stub, dir_of, file_of, process_of

from steadhold.calls import Turn
from steadhold.machines import Value
from steadhold.processes import Opening


class FileCase(TurnCase):
    def setUp(self):
        super().setUp()
        self.put((1,), 10, 11, 12)
        self.files_ask("make", (2,), "dir")
        self.put((2, 1), 20)

    def files_ask(self, *request):
        return self.run_machine(self.unix.files.ask(request))

    def put(self, path, *words):
        self.files_ask("make", path, "file")
        if words:
            self.files_ask("put", path, 0, words)

    def opening(self, end, slot=0):
        opening = self.table.opening(self.table.at(slot).ends[end])
        return opening.kind, opening.pipe, opening.path, opening.offset

    def tree(self):
        return self.unix.files.tree


class Opened(FileCase):
    def test_to_read(self):
        self.ok("open", 0, 0, 1, r1=0)
        self.assertEqual(self.asked_files(), [("size", (1,))])
        self.assertEqual(self.asked, [("pass",)])
        self.ok("open", 0, 2, 1, r1=1)
        self.assertEqual(self.opening(0), ("read", None, (1,), 0))
        self.assertEqual(self.opening(1), ("read", None, (2, 1), 0))

    def test_to_read_what_is_not_there(self):
        for path in ((0, 9), (2, 9), (9, 1), (1, 1), (0, 2)):
            self.no("open", 0, *path)
        self.assertEqual(self.one.ends, {})

    def test_anew(self):
        self.ok("open", 1, 0, 1, r1=0)
        self.assertEqual(self.asked_files(), [("size", (1,)), ("shrink", (1,), 0)])
        self.assertEqual(self.opening(0), ("write", None, (1,), 0))
        self.ok("open", 1, 2, 7, r1=1)
        self.assertEqual(self.asked_files(), [("size", (2, 7)), ("make", (2, 7), "file"), ("shrink", (2, 7), 0)])
        self.assertEqual(self.tree(), dir_of(n1=file_of(), n2=dir_of(n1=file_of(20), n7=file_of())))

    def test_behind(self):
        self.ok("open", 2, 0, 1, r1=0)
        self.assertEqual(self.asked_files(), [("size", (1,))])
        self.assertEqual(self.opening(0), ("write", None, (1,), 3))
        self.ok("open", 2, 0, 7, r1=1)
        self.assertEqual(self.asked_files(), [("size", (7,)), ("make", (7,), "file")])
        self.assertEqual(self.opening(1), ("write", None, (7,), 0))
        self.assertEqual(self.tree()["names"][7], file_of())

    def test_what_the_files_refuse(self):
        for mode in (1, 2):
            for path in ((0, 2), (9, 1), (1, 1)):
                self.no("open", mode, *path)

    def test_other_modes_and_no_path(self):
        for mode in (3, 4, TOP):
            self.no("open", mode, 0, 1)
            self.assertEqual(self.asked_files(), [])
        for mode in (0, 1, 2):
            self.no("open", mode, 0, 0)
            self.no("open", mode, 2, 0)
            self.assertEqual(self.asked_files(), [])

    def test_no_end_is_free(self):
        for end in range(4):
            self.ok("open", 0, 0, 1, r1=end)
        for mode in (0, 1, 2):
            self.no("open", mode, 0, 7)
        self.assertNotIn(7, self.tree()["names"])
        self.ok("close", 2)
        self.ok("open", 1, 0, 7, r1=2)

    def test_great_names(self):
        self.ok("open", 1, 0, TOP, r1=0)
        self.ok("open", 1, 2, TOP, r1=1)
        self.assertEqual(self.opening(1)[2], (2, TOP))


class Words(FileCase):
    def test_reading_to_the_end(self):
        self.ok("open", 0, 0, 1, r1=0)
        for at in range(3):
            self.ok("read", 0, r1=10 + at)
            self.assertEqual(self.asked_files(), [("get", (1,), at, 1)])
        self.no("read", 0)
        self.no("read", 0)
        self.assertEqual(self.opening(0)[3], 3)
        self.files_ask("put", (1,), 3, (7,))
        self.ok("read", 0, r1=7)

    def test_writing(self):
        self.ok("open", 2, 0, 1, r1=0)
        self.ok("write", 0, 5)
        self.assertEqual(self.asked_files(), [("put", (1,), 3, (5,))])
        self.ok("write", 0, TOP)
        self.assertEqual(self.opening(0)[3], 5)
        self.assertEqual(self.tree()["names"][1], file_of(10, 11, 12, 5, TOP))

    def test_up_to_48_words(self):
        self.put((5,), *range(46))
        self.ok("open", 2, 0, 5, r1=0)
        self.ok("write", 0, 1)
        self.ok("write", 0, 2)
        self.no("write", 0, 3)
        self.assertEqual(len(self.tree()["names"][5]["words"]), 48)
        self.ok("open", 0, 0, 5, r1=1)
        for word in list(range(46)) + [1, 2]:
            self.ok("read", 1, r1=word)
        self.no("read", 1)
        self.ok("open", 2, 0, 5, r1=2)
        self.no("write", 2, 1)

    def test_wrong_kinds(self):
        self.ok("open", 0, 0, 1, r1=0)
        self.ok("open", 2, 0, 1, r1=1)
        self.no("write", 0, 5)
        self.no("read", 1)
        self.assertEqual(self.asked_files(), [])

    def test_a_file_that_is_gone(self):
        self.ok("open", 0, 0, 1, r1=0)
        self.ok("open", 2, 0, 1, r1=1)
        self.ok("drop", 1, 0, 1)
        self.no("read", 0)
        self.no("write", 1, 4)
        self.assertEqual((self.opening(0)[3], self.opening(1)[3]), (0, 3))

    def test_a_file_that_was_shrunk(self):
        self.ok("open", 2, 0, 1, r1=0)
        self.ok("open", 1, 0, 1, r1=1)
        self.ok("write", 0, 4)
        self.assertEqual(self.tree()["names"][1], file_of(0, 0, 0, 4))

    def test_one_opening_of_two_processes(self):
        self.ok("open", 0, 0, 1, r1=0)
        child = self.fork()
        self.ok("read", 0, r1=10)
        self.ok("read", 0, slot=child, r1=11)
        self.ok("read", 0, r1=12)
        self.call("exit", 0, slot=child)
        self.no("read", 0)


class Parts(FileCase):
    def test_make(self):
        self.ok("make", 1, 0, 5)
        self.assertEqual(self.asked_files(), [("make", (5,), "dir")])
        self.ok("make", 1, 5, 6)
        self.assertEqual(self.tree()["names"][5], dir_of(n6=dir_of()))
        for path in ((0, 5), (0, 1), (5, 6), (1, 7), (9, 9)):
            self.no("make", 1, *path)
        for path in ((0, 0), (5, 0)):
            self.no("make", 1, *path)
            self.assertEqual(self.asked_files(), [])

    def test_drop(self):
        self.no("drop", 1, 0, 2)
        self.ok("drop", 1, 2, 1)
        self.assertEqual(self.asked_files(), [("drop", (2, 1))])
        self.ok("drop", 1, 0, 2)
        self.ok("drop", 1, 0, 1)
        self.assertEqual(self.tree(), dir_of())
        for path in ((0, 1), (2, 1), (0, 0), (1, 0)):
            self.no("drop", 1, *path)


class Syncs(FileCase):
    def test_sync(self):
        self.ok("sync")
        self.assertEqual(self.asked_files(), [("sync",)])
        self.assertEqual(self.asked_behind()[0][0], "reserve")
        self.ok("sync")
        self.assertEqual(self.asked, [("pass",)])

    def test_no_room(self):
        self.begin(block_share=0, frames=32)
        # Another environment holds all that is free.
        while self.kernel.request(3, ("reserve",))[0] == "ok":
            pass
        self.put((1,), 1)
        self.no("sync")
        self.assertIn(("reserve",), self.asked)
        self.assertEqual(self.tree(), dir_of(n1=file_of(1)))


class SyncsB(Syncs):
    KIND = "B"


class WordsB(Words):
    KIND = "B"


class Net(TurnCase):
    def come(self, *words):
        return self.kernel.net.come(words + (0,) * (6 - len(words)))

    def test_send(self):
        self.ok("send", 5, 6)
        self.assertEqual(self.asked_behind(), [("send", (5, 6, 0, 0, 0, 0))])
        self.ok("send", TOP, 0)
        self.assertEqual(self.kernel.net.sent(), [(5, 6, 0, 0, 0, 0), (TOP, 0, 0, 0, 0, 0)])

    def test_a_new_port(self):
        self.no_packet("receive", 5)
        self.assertEqual(self.asked_behind(), [("filter", ((0, TOP, 5),)), ("next", 1)])
        self.assertEqual(self.unix.ports, {5: 1})
        self.no_packet("receive", 5)
        self.assertEqual(self.asked_behind(), [("next", 1)])
        self.come(5, 7, 8, 9)
        self.come(5, 1, 2)
        self.ok("receive", 5, r1=7, r2=8)
        self.ok("receive", 5, r1=1, r2=2)
        self.no_packet("receive", 5)

    def no_packet(self, *words):
        self.assertEqual(self.call(*words), (0, words[1], 72, 73, 74, 75))

    def test_five_ports(self):
        for port in (1, 5, 9, 13):
            self.no_packet("receive", port)
        self.no_packet("receive", 17)
        self.assertEqual((self.asked, sorted(self.unix.ports)), ([("pass",)], [1, 5, 9, 13]))
        self.come(13, 4, 3)
        self.come(17, 4, 3)
        self.ok("receive", 13, r1=4, r2=3)

    def test_a_port_that_is_refused(self):
        self.no("receive", 6)
        self.assertEqual(self.asked_behind(), [("filter", ((0, TOP, 6),))])
        self.assertEqual(self.unix.ports, {})
        self.assertEqual(self.kernel.net.filters(), [])

    def test_ports_of_all_processes(self):
        self.no_packet("receive", 1)
        child = self.fork()
        self.come(1, 3, 4)
        self.ok("receive", 1, slot=child, r1=3, r2=4)
        self.assertEqual(len(self.kernel.net.filters()), 1)


class Answers:
    """In place of files: answers at once with what it was given for the word of a request."""

    def __init__(self, answers):
        self.answers, self.asked = answers, []

    def ask(self, request):
        self.asked.append(request)
        return Value(self.answers[request[0]])


class Refusals(TurnCase):
    """What the libraries of files do not refuse, but others could."""

    def begin_with(self, **answers):
        self.unix = Stub(self.E, 24, Answers(answers))
        return self.unix.table

    def row(self, name, *words, **ends):
        process = process_of(self.unix.table, 0, (("call", name),))
        process.registers[1:1 + len(words)] = words
        process.ends.update({int(end[1:]): number for end, number in ends.items()})
        row = self.run_machine(Turn(self.unix, 0))
        self.assertEqual(row[1], name)
        return row[2], process

    def test_a_shrink(self):
        self.begin_with(size=("ok", 4), shrink=("no", "path"))
        registers, process = self.row("open", 1, 0, 5)
        self.assertEqual((registers, process.ends), ((0, 1, 0, 5, 0, 0), {}))
        self.assertEqual(self.unix.files.asked, [("size", (5,)), ("shrink", (5,), 0)])

    def test_a_make(self):
        for mode in (1, 2):
            self.begin_with(size=("no", "path"), make=("no", "full"))
            registers, process = self.row("open", mode, 0, 5)
            self.assertEqual((registers[0], process.ends), (0, {}))
            self.assertEqual(self.unix.files.asked, [("size", (5,)), ("make", (5,), "file")])

    def test_a_put_and_a_get(self):
        for name, kind in (("write", "write"), ("read", "read")):
            table = self.begin_with(put=("no", "full"), get=("no", "dir"))
            number = table.add(Opening(kind, None, (5,), 6))
            self.assertEqual(self.row(name, 1, e1=number)[0], (0, 1, 0, 0, 0, 0))
            self.assertEqual(table.opening(number).offset, 6)

    def test_a_sync(self):
        self.begin_with(sync=("no", "full"))
        self.assertEqual(self.row("sync")[0], (0,) * 6)


if __name__ == "__main__":
    unittest.main()
