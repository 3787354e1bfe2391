"""Reading the lines of a worksheet (points 9.1 and 9.2)."""

from reesblocks.congruence import is_word
from reesblocks.errors import NoText
from reesblocks.semigroup import read_semigroup

LONGEST_LINE = 2000
LONGEST_NAME = 8

# What follows the first token of each command but let: names, numbers and words. The first name of some is defined.
FORMS = {
    "opposite": ("name", "name"),
    "zero": ("name", "name"),
    "unit": ("name", "name"),
    "product": ("name", "name", "name"),
    "factor": ("name", "name", "number"),
    "show": ("name",),
    "regular": ("name",),
    "box": ("name", "number"),
    "maps": ("name", "name"),
    "congruences": ("name",),
    "alike": ("name", "name"),
    "joined": ("name", "number", "number", "number", "number"),
    "rees": ("name",),
    "inverse": ("name",),
    "identity": ("name", "word", "word"),
}
DEFINING = ("let", "opposite", "zero", "unit", "product", "factor")


def read_line(line):
    """Return the command of a line as a tuple; raise NoText(0) for what is no line or has no form."""
    if not isinstance(line, str) or len(line) > LONGEST_LINE or not all([" " <= sign <= "~" for sign in line]):
        raise NoText(0)
    tokens = [token for token in line.split(" ") if token != ""]
    if line.startswith("#") or not tokens:
        return ("empty",)
    if tokens[0] == "let":
        return _definition(line, tokens)
    forms = FORMS.get(tokens[0])
    if forms is None or len(forms) != len(tokens) - 1:
        raise NoText(0)
    values = [_value_of(form, token) for form, token in zip(forms, tokens[1:])]
    return (tokens[0], *values)


def is_defining(command):
    """Tell whether a command defines a name, its first one."""
    return command[0] in DEFINING


def names_and_numbers(command):
    """Return the list of the names that must be defined for a command, and that of its numbers, in order."""
    pairs = list(zip(FORMS.get(command[0], ()), command[1:]))
    if is_defining(command):
        pairs = pairs[1:]
    names = [value for form, value in pairs if form == "name"]
    return names, [value for form, value in pairs if form == "number"]


def _definition(line, tokens):
    """Return the command of a line that begins with let."""
    if len(tokens) < 3 or not _is_name(tokens[1]) or tokens[2] != "=":
        raise NoText(0)
    text = line.partition("=")[2].strip(" ")
    return "let", tokens[1], read_semigroup(text)


def _value_of(form, token):
    """Return the name, the number or the word that a token tells."""
    if form == "number" and len(token) <= 2 and token.isdigit() and str(int(token)) == token:
        return int(token)
    if form == "name" and _is_name(token) or form == "word" and is_word(token):
        return token
    raise NoText(0)


def _is_name(token):
    """Tell whether a token is a string of 1 to 8 small letters."""
    return len(token) <= LONGEST_NAME and all(["a" <= letter <= "z" for letter in token])
