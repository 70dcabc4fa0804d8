"""Machines: objects that tell by `request` what they want next and are told the result by `accept`."""


class Stack:
    """Runs a machine, and the machines that it calls, for an environment."""

    def __init__(self, machine):
        self._machines = [machine]
        self._value = None

    def step(self, kernel, environment):
        """Make at most one request to the kernel; True if one was made."""
        self._settle()
        if self.ended():
            return False
        top = self._machines[-1]
        top.accept(kernel.request(environment, top.request()))
        self._settle()
        return True

    def ended(self):
        """True if no machine is left."""
        return len(self._machines) == 0

    def value(self):
        """The value with which the first machine ended, None if it has not."""
        return self._value

    def _settle(self):
        """Put called machines on top, and remove those that have ended, until the topmost wants a request."""
        while self._machines:
            wanted = self._machines[-1].request()
            if _is_order(wanted, "call"):
                self._machines.append(wanted[1])
            elif _is_order(wanted, "end"):
                self._remove_top(wanted[1])
            else:
                return

    def _remove_top(self, value):
        self._machines.pop()
        if self._machines:
            self._machines[-1].accept(value)
        else:
            self._value = value


def _is_order(wanted, word):
    """True if this is no request to the kernel, but an order of this word to the stack."""
    return isinstance(wanted, tuple) and len(wanted) == 2 and wanted[0] == word


class Value:
    """A machine that ends at once with a value."""

    def __init__(self, value):
        self._value = value

    def request(self):
        """The end."""
        return ("end", self._value)

    def accept(self, result):
        """There is nothing to accept, as nothing is asked."""


class Requests:
    """A machine that makes the requests of a list, whatever the answers are, and ends with the list of these."""

    def __init__(self, requests):
        self._requests = list(requests)
        self._answers = []

    def request(self):
        """The next request, or the end."""
        if len(self._answers) == len(self._requests):
            return ("end", list(self._answers))
        return self._requests[len(self._answers)]

    def accept(self, result):
        """The answer to the last request."""
        self._answers.append(result)
