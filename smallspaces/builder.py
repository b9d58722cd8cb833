"""Builders, into which rows are put one by one."""

from smallspaces.errors import NothingToUndo
from smallspaces.formatting import format_space
from smallspaces.rows import check_row, check_setting, unit_row
from smallspaces.spans import contains, reduced_rows


class Builder:
    """A setting, rows of it, and the span of these rows; the rows put in last can be taken out."""

    def __init__(self, setting):
        """Make a builder without rows."""
        check_setting(setting)
        self._setting = setting
        self._rows = []
        # The spans of no row, of the first row, of the first two rows, and so on.
        self._spaces = [()]
        # So many of the first rows can't be taken out.
        self._fixed = 0

    def __len__(self):
        """Return the dimension of the span."""
        return len(self.space())

    def __str__(self):
        """Return the text of the span."""
        return str(format_space(self._setting, self.space()))

    def __eq__(self, other):
        """Return whether other is a builder with the same setting and span."""
        return isinstance(other, Builder) and self._setting == other._setting and self.space() == other.space()

    def put(self, row):
        """Put a row in, and return whether the dimension grows."""
        check_row(self._setting, row)
        before = self.space()
        after = reduced_rows(self._setting[0], before + (row,))
        self._rows.append(row)
        self._spaces.append(after)
        return len(after) > len(before)

    def space(self):
        """Return the span."""
        return self._spaces[-1]

    def rows(self):
        """Return the list of the rows."""
        return list(self._rows)

    def missing(self):
        """Return the first row that is not in the span, or None if there is none."""
        p, n = self._setting
        # The rows before a unit row are made of the unit rows before it: the first missing row is a unit row.
        for place in reversed(range(n)):
            row = unit_row(n, place)
            if not contains(p, self.space(), row):
                return row
        return None

    def undo(self):
        """Take the last row out, and return the span afterwards."""
        if len(self._rows) == self._fixed:
            raise NothingToUndo("there is no row that can be taken out")
        self._rows.pop()
        self._spaces.pop()
        return self.space()

    def duplicate(self):
        """Return a builder with the same setting and rows, none of which can be taken out."""
        copied = Builder(self._setting)
        copied._rows = list(self._rows)
        copied._spaces = list(self._spaces)
        copied._fixed = len(self._rows)
        return copied
