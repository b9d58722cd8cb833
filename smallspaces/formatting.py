"""The text of a subspace, and back."""

from smallspaces.errors import ParseError
from smallspaces.rows import LONGEST, check_setting
from smallspaces.spans import check_subspace, is_subspace

# Each digit stands at the place that it names.
DIGITS = "01234"


def first_line(setting):
    """Return the first line of the text of each subspace of a setting."""
    p, n = setting
    return f"{p} {n}"


def row_line(row):
    """Return the line of a row."""
    return "".join([DIGITS[entry] for entry in row])


def format_space(setting, space):
    """Return the text of a subspace."""
    check_setting(setting)
    check_subspace(setting, space)
    return "\n".join([first_line(setting)] + [row_line(row) for row in space])


def parse_setting(line):
    """Return the setting with this first line."""
    for setting in [(p, n) for p in LONGEST for n in range(1, LONGEST[p] + 1)]:
        if first_line(setting) == line:
            return setting
    raise ParseError("the first line is not a prime, a space and a length")


def parse_row(line):
    """Return the tuple of the digits of a line, with -1, which is no entry of a row, for what is no digit."""
    return tuple([DIGITS.find(sign) for sign in line])


def parse_space(text):
    """Return the tuple of the setting and the subspace with this text."""
    if not isinstance(text, str):
        raise ParseError("a text is a string")
    lines = text.split("\n")
    setting = parse_setting(lines[0])
    space = tuple([parse_row(line) for line in lines[1:]])
    if not is_subspace(setting, space):
        raise ParseError("the lines below the first one are not the reduced rows of a subspace")
    return setting, space
