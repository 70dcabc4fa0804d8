"""[38] and [39]: machines, and the stack that runs them."""

import unittest

from test_kernel import new_kernel

from steadhold.machines import Requests, Stack, Value


class Calls:
    """Calls machines, one after the other, and ends with the list of their values."""

    def __init__(self, machines):
        self.machines, self.values = machines, []

    def request(self):
        if len(self.values) < len(self.machines):
            return ("call", self.machines[len(self.values)])
        return ("end", list(self.values))

    def accept(self, result):
        self.values.append(result)


class Log:
    """In place of a kernel: notes what it is asked."""

    def __init__(self):
        self.asked = []

    def request(self, environment, request):
        self.asked.append((environment, request))
        return ("ok", len(self.asked))


class Machines(unittest.TestCase):
    def test_value(self):
        machine = Value((1, 2))
        for _ in range(3):
            self.assertEqual(machine.request(), ("end", (1, 2)))
        self.assertEqual(Value(None).request(), ("end", None))

    def test_requests(self):
        requests = [("take",), ("held",), ("nothing",)]
        machine = Requests(requests)
        requests.pop()
        for at, request in enumerate([("take",), ("held",), ("nothing",)]):
            for _ in range(3):
                self.assertEqual(machine.request(), request)
            machine.accept(at)
        self.assertEqual(machine.request(), ("end", [0, 1, 2]))
        machine.request()[1].clear()
        self.assertEqual(machine.request(), ("end", [0, 1, 2]))
        self.assertEqual(Requests([]).request(), ("end", []))


class Stacks(unittest.TestCase):
    def test_requests_to_the_kernel(self):
        kernel = new_kernel()
        stack = Stack(Requests([("take",), ("drop", 5), ("held",)]))
        self.assertFalse(stack.ended())
        self.assertIsNone(stack.value())
        for _ in range(2):
            self.assertIs(stack.step(kernel, 2), True)
            self.assertFalse(stack.ended())
            self.assertIsNone(stack.value())
        self.assertIs(stack.step(kernel, 2), True)
        self.assertTrue(stack.ended())
        self.assertEqual(stack.value(), [("ok", 0), ("no", "book"), ("ok", (0,))])
        self.assertIs(stack.step(kernel, 2), False)
        self.assertEqual(stack.value(), [("ok", 0), ("no", "book"), ("ok", (0,))])

    def test_a_machine_that_has_ended_at_once(self):
        log = Log()
        stack = Stack(Value(7))
        self.assertFalse(stack.ended())
        self.assertIsNone(stack.value())
        self.assertIs(stack.step(log, 0), False)
        self.assertTrue(stack.ended())
        self.assertEqual(stack.value(), 7)
        self.assertEqual(log.asked, [])

    def test_called_machines(self):
        log = Log()
        stack = Stack(Calls([Value("a"), Requests([("x",), ("y",)]), Value("b"), Value("c"), Requests([("z",)])]))
        self.assertEqual([stack.step(log, 3) for _ in range(3)], [True] * 3)
        self.assertTrue(stack.ended())
        self.assertEqual(log.asked, [(3, ("x",)), (3, ("y",)), (3, ("z",))])
        self.assertEqual(stack.value(), ["a", [("ok", 1), ("ok", 2)], "b", "c", [("ok", 3)]])
        self.assertIs(stack.step(log, 3), False)

    def test_calls_in_calls(self):
        log = Log()
        inner = Calls([Value(1), Calls([Calls([]), Requests([("x",)])]), Value(2)])
        stack = Stack(Calls([inner, Calls([Value(3)])]))
        self.assertIs(stack.step(log, 0), True)
        self.assertTrue(stack.ended())
        self.assertEqual(stack.value(), [[1, [[], [("ok", 1)]], 2], [3]])

    def test_many_calls_in_calls(self):
        machine = Requests([("x",)])
        for _ in range(3000):
            machine = Calls([machine])
        log = Log()
        stack = Stack(machine)
        self.assertTrue(stack.step(log, 0))
        self.assertTrue(stack.ended())

    def test_a_stack_without_requests(self):
        stack = Stack(Calls([Calls([]), Value(4)]))
        self.assertIs(stack.step(Log(), 0), False)
        self.assertEqual(stack.value(), [[], 4])

    def test_a_stack_settles_only_in_a_step(self):
        called = []

        class Noted(Value):
            def request(self):
                called.append(1)
                return super().request()

        stack = Stack(Noted(1))
        self.assertEqual(called, [])
        self.assertFalse(stack.ended())
        stack.step(Log(), 0)
        self.assertTrue(called)

    def test_an_end_with_none(self):
        stack = Stack(Calls([Value(None)]))
        stack.step(Log(), 0)
        self.assertEqual(stack.value(), [None])

    def test_a_request_that_is_no_order(self):
        """A request that only begins like a call or an end goes to the kernel."""
        log = Log()
        stack = Stack(Requests([("end",), ("call", 1, 2), None, ["end", 3]]))
        self.assertEqual([stack.step(log, 0) for _ in range(5)], [True] * 4 + [False])
        self.assertEqual([request for _, request in log.asked], [("end",), ("call", 1, 2), None, ["end", 3]])


if __name__ == "__main__":
    unittest.main()
