"""The replies to the lines of a worksheet, and the entries that are right (points 9.2, 9.3 and 9.5)."""

from reesblocks.build import direct_product, opposite, with_unit, with_zero
from reesblocks.checker import takes_identity, takes_inverse, takes_join, takes_pair, takes_rees
from reesblocks.congruence import congruences
from reesblocks.errors import Fault, Malformed, NoText, Refused
from reesblocks.factors import principal_factor
from reesblocks.green import egg_box, regular_elements
from reesblocks.homs import count_homomorphisms
from reesblocks.papers import identity_paper, inverse_paper, join_paper, pair_paper, rees_paper
from reesblocks.sheet import is_defining, names_and_numbers, read_line

WITH_PAPERS = ("alike", "joined", "rees", "inverse", "identity")
# What the papers begin with that go with the text "yes".
YES = ("isomorphic", "chain", "rees", "inverse", "holds")


class Reply:
    """The reply to a line: its kind, its text and its data."""

    def __init__(self, kind, text="", data=()):
        self.kind = kind
        self.text = text
        self.data = data

    def __eq__(self, other):
        if not isinstance(other, Reply):
            return False
        return same_data((self.kind, self.text, self.data), (other.kind, other.text, other.data))


def same_data(one, other):
    """Tell whether two values are equal, where True and False are no integers."""
    # The values can be nested deep, so they are not compared by a function that calls itself.
    waiting = [(one, other)]
    while waiting:
        a, b = waiting.pop()
        if isinstance(a, tuple) and isinstance(b, tuple):
            if len(a) != len(b):
                return False
            waiting.extend(list(zip(a, b)))
        elif isinstance(a, bool) != isinstance(b, bool) or a != b:
            return False
    return True


def reply_to(names, line):
    """Return the reply to a line, for a dict from the defined names to semigroups."""
    try:
        return _reply_of(names, read_line(line))
    except NoText:
        return Reply("error", "text")
    except Malformed:
        return Reply("error", "malformed")
    except Refused as fault:
        return Reply("error", f"refused {fault.reason}")


def defined(names, line):
    """Return the pair of the name and the semigroup that a line defines, or None."""
    try:
        command = read_line(line)
        if not is_defining(command):
            return None
        return command[1], _semigroup_of(names, command)
    except Fault:
        return None


def is_right(names, entry):
    """Tell whether the value is an entry, a pair of a line and a reply, that is right over the defined names."""
    if not isinstance(entry, tuple) or len(entry) != 2 or not isinstance(entry[1], Reply):
        return False
    line, reply = entry
    command = _command_with_paper(names, line)
    if command is None or reply.kind == "error":
        return reply == reply_to(names, line)
    # Other papers than the one that is made can be right as well.
    if reply.kind != command[0] or not _takes(names, command, reply.data):
        return False
    return reply.text == _answer(reply.data)


def _reply_of(names, command):
    """Return the reply to a command; raise what stands in its way."""
    parts, numbers = _arguments(names, command)
    kind = command[0]
    if kind == "empty":
        return Reply("done")
    if kind == "show" or is_defining(command):
        return Reply("semigroup", str(_semigroup_of(names, command)))
    if kind == "regular":
        found = regular_elements(parts[0])
        return Reply("elements", _joined(found), found)
    if kind == "box":
        box = egg_box(parts[0], numbers[0])
        return Reply("box", _joined((len(box), len(box[0]), len(box[0][0]))), box)
    if kind == "maps":
        return Reply("number", str(count_homomorphisms(parts[0], parts[1])))
    if kind == "congruences":
        return Reply("number", str(len(congruences(parts[0]))))
    paper = _paper_of(names, command)
    return Reply(kind, _answer(paper), paper)


def _arguments(names, command):
    """Return the semigroups and the numbers of a command; refuse names and numbers that are none."""
    told, numbers = names_and_numbers(command)
    if not all([name in names for name in told]):
        raise Refused("name")
    parts = [names[name] for name in told]
    # All numbers of a command are elements of the first semigroup.
    if not all([parts[0].is_element(x) for x in numbers]):
        raise Refused("element")
    return parts, numbers


def _semigroup_of(names, command):
    """Return the semigroup that a command defines or shows."""
    parts, numbers = _arguments(names, command)
    kind = command[0]
    if kind == "let":
        return command[2]
    if kind == "opposite":
        return opposite(parts[0])
    if kind == "zero":
        return with_zero(parts[0])
    if kind == "unit":
        return with_unit(parts[0])
    if kind == "product":
        return direct_product(parts[0], parts[1])
    if kind == "factor":
        return principal_factor(parts[0], numbers[0])
    return parts[0]


def _paper_of(names, command):
    """Return the paper that answers a command."""
    parts, numbers = _arguments(names, command)
    kind = command[0]
    if kind == "alike":
        return pair_paper(parts[0], parts[1])
    if kind == "joined":
        x, y, u, v = numbers
        return join_paper(parts[0], ((x, y),), u, v)
    if kind == "rees":
        return rees_paper(parts[0])
    if kind == "inverse":
        return inverse_paper(parts[0])
    return identity_paper(parts[0], command[2], command[3])


def _takes(names, command, paper):
    """Tell whether the checker accepts a paper for a command."""
    parts, numbers = _arguments(names, command)
    kind = command[0]
    if kind == "alike":
        return takes_pair(parts[0], parts[1], paper)
    if kind == "joined":
        x, y, u, v = numbers
        return takes_join(parts[0], ((x, y),), u, v, paper)
    if kind == "rees":
        return takes_rees(parts[0], paper)
    if kind == "inverse":
        return takes_inverse(parts[0], paper)
    return takes_identity(parts[0], command[2], command[3], paper)


def _command_with_paper(names, line):
    """Return the command of a line that a paper answers, with defined names and with elements, or None."""
    try:
        command = read_line(line)
        _arguments(names, command)
    except Fault:
        return None
    return command if command[0] in WITH_PAPERS else None


def _answer(paper):
    """Return the text that belongs to a paper."""
    return "yes" if paper[0] in YES else "no"


def _joined(numbers):
    """Return the numbers in digits, joined by one space."""
    return " ".join([str(number) for number in numbers])
