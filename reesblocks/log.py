"""Plain data, their written form, and logs of entries (points 9.5 and 9.6)."""

from reesblocks.errors import Malformed, NoText
from reesblocks.replies import Reply, defined, is_right

MOST_DIGITS = 4000
# No integer of 4000 digits has more bits than this, and Python writes all integers that have no more.
MOST_BITS = 13288
LONGEST_LABEL = 12
DEEPEST = 20
# What the three lines of an entry begin with.
MARKS = ("> ", "= ", "# ")


def write_data(data):
    """Return the written form of plain data; raise Malformed for every other value."""
    return _written(data, 0)


def read_data(text):
    """Return the plain data with this written form; raise NoText(0) if there are none."""
    if not isinstance(text, str):
        raise NoText(0)
    found = _read_over(text)
    # Wrong spaces, leading zeros and words that are no labels were read over; plain data have one written form.
    try:
        written = [write_data(data) for data in found]
    except Malformed:
        raise NoText(0) from None
    if written != [text]:
        raise NoText(0)
    return found[0]


def write_log(entries):
    """Return the written form of a list of entries; raise Malformed if an item is none that can be written."""
    if not isinstance(entries, list):
        raise Malformed("the entries are no list")
    return "".join([_written_entry(entry) for entry in entries])


def read_log(text):
    """Return the list of the entries with this written form; raise NoText for the first line that is wrong."""
    if not isinstance(text, str):
        raise NoText(0)
    lines = text.split("\n")
    # What stands behind the last line feed is no line, and must be empty.
    parts = [_read_line_of_entry(line, at) for at, line in enumerate(lines[:-1])]
    if lines[-1] != "" or len(parts) % 3 != 0:
        raise NoText(len(parts))
    entries = []
    for at in range(0, len(parts), 3):
        kind, words = parts[at + 1]
        entries.append((parts[at], Reply(kind, words, parts[at + 2])))
    return entries


def first_wrong(entries):
    """Return the index of the first entry of a list that is not right, beginning without definitions, or -1."""
    names = {}
    for at, entry in enumerate(entries):
        if not is_right(names, entry):
            return at
        found = defined(names, entry[0])
        if found is not None:
            names[found[0]] = found[1]
    return -1


def _written(data, around):
    """Return the written form of data with so many tuples around them."""
    if isinstance(data, bool):
        return "true" if data else "false"
    if isinstance(data, int):
        return _digits(data)
    if _is_label(data):
        return data
    if not isinstance(data, tuple) or around >= DEEPEST:
        raise Malformed("these are no plain data")
    return "(" + " ".join([_written(item, around + 1) for item in data]) + ")"


def _digits(number):
    """Return the decimal digits of an integer, with a minus sign if it is negative."""
    # Python refuses to write far larger numbers, so the digits are counted only where there are not too many.
    if number.bit_length() > MOST_BITS:
        raise Malformed("the integer has too many digits")
    text = str(number)
    if len(text.removeprefix("-")) > MOST_DIGITS:
        raise Malformed("the integer has too many digits")
    return text


def _is_label(value):
    """Tell whether the value is a string of 1 to 12 small letters other than true and false."""
    if not isinstance(value, str) or not 1 <= len(value) <= LONGEST_LABEL or value in ("true", "false"):
        return False
    return all(["a" <= letter <= "z" for letter in value])


def _read_over(text):
    """Return the list of the values that a text tells, whatever spaces it has."""
    open_ones = [[]]
    for token in text.replace("(", " ( ").replace(")", " ) ").split():
        if token == "(":
            open_ones.append([])
        elif token != ")":
            open_ones[-1].append(_value_of(token))
        elif len(open_ones) > 1:
            items = tuple(open_ones.pop())
            open_ones[-1].append(items)
        else:
            raise NoText(0)
        if len(open_ones) > DEEPEST + 1:
            raise NoText(0)
    if len(open_ones) != 1:
        raise NoText(0)
    return open_ones[0]


def _value_of(token):
    """Return what a token tells: True, False, an integer, or itself."""
    if token in ("true", "false"):
        return token == "true"
    digits = token.removeprefix("-")
    if len(digits) <= MOST_DIGITS and digits.isascii() and digits.isdigit():
        return int(token)
    return token


def _written_entry(entry):
    """Return the three lines of an entry; raise Malformed if it is none that can be written."""
    if not isinstance(entry, tuple) or len(entry) != 2 or not isinstance(entry[1], Reply):
        raise Malformed("this is no pair of a line and a reply")
    line, reply = entry
    if not _is_single_line(line) or not _is_label(reply.kind) or not _is_single_line(reply.text):
        raise Malformed("the line, the kind or the text cannot be written")
    if not isinstance(reply.data, tuple):
        raise Malformed("the data are no tuple")
    return f"> {line}\n= {reply.kind} {reply.text}\n# {write_data(reply.data)}\n"


def _is_single_line(value):
    """Tell whether the value is a string without a line feed."""
    return isinstance(value, str) and "\n" not in value


def _read_line_of_entry(line, at):
    """Return what the line with this number tells: a line, the pair of a kind and a text, or data."""
    place = at % 3
    told = line.removeprefix(MARKS[place])
    if told == line:
        raise NoText(at)
    if place == 0:
        return told
    if place == 1:
        kind, space, text = told.partition(" ")
        if space == "" or not _is_label(kind):
            raise NoText(at)
        return kind, text
    try:
        data = read_data(told)
    except NoText:
        raise NoText(at) from None
    if not isinstance(data, tuple):
        raise NoText(at)
    return data
