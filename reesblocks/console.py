"""The console: it keeps the definitions and the entries of a worksheet (point 9.4)."""

from reesblocks.errors import Refused
from reesblocks.log import write_log
from reesblocks.replies import defined, reply_to


class Console:
    """A worksheet into which at most `most` lines are entered, one after the other."""

    def __init__(self, *, most=300):
        self.most = most
        self.entries = []
        self.definitions = {}

    def __len__(self):
        return len(self.entries)

    def __iter__(self):
        return iter(self.entries)

    def enter(self, line):
        """Enter a line and return the reply; raise Refused("lines") if there are as many as may be entered."""
        if len(self.entries) >= self.most:
            raise Refused("lines")
        reply = reply_to(self.definitions, line)
        found = defined(self.definitions, line)
        if found is not None:
            self.definitions[found[0]] = found[1]
        self.entries.append((line, reply))
        return reply

    def names(self):
        """Return a new dict from the defined names to their semigroups."""
        return dict(self.definitions)

    def log(self):
        """Return the written form of the list of the entries."""
        return write_log(list(self.entries))
