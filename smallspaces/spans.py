"""Subspaces as tuples of reduced rows, and the rows that are in them."""

from smallspaces.errors import InvalidRows, InvalidSubspace
from smallspaces.rows import add_multiple, check_row, check_setting, is_row

# The greatest number of rows that span takes.
MOST_ROWS = 12


def leading_place(row):
    """Return the first place with an entry other than 0, or None for the zero row."""
    for place, entry in enumerate(row):
        if entry != 0:
            return place
    return None


def with_leading_one(p, row):
    """Return the multiple of a row, not the zero row, whose leading entry is 1."""
    leading = row[leading_place(row)]
    factor = 1
    while factor * leading % p != 1:
        factor += 1
    return tuple([factor * entry % p for entry in row])


def cleared(p, row, base):
    """Return row plus the multiple of base that has 0 at the leading place of base, where base has 1."""
    return add_multiple(p, row, -row[leading_place(base)], base)


def remainder(p, reduced, row):
    """Return what is left of a row with 0 at each leading place of the reduced rows."""
    left = row
    for base in reduced:
        left = cleared(p, left, base)
    return left


def reduced_rows(p, rows):
    """Return the tuple of reduced rows with the same span as the rows."""
    found = []
    for row in rows:
        left = remainder(p, found, row)
        if leading_place(left) is not None:
            base = with_leading_one(p, left)
            # This moves no leading place: a row with a later one than base has 0 at that of base already.
            found = [cleared(p, other, base) for other in found] + [base]
    return tuple(sorted(found, key=leading_place))


def is_subspace(setting, value):
    """Return whether value is a tuple of reduced rows of the setting."""
    check_setting(setting)
    if not isinstance(value, tuple) or not all([is_row(setting, row) for row in value]):
        return False
    # No other tuple of reduced rows has the same span: only reduced rows are left as they are.
    return reduced_rows(setting[0], value) == value


def check_subspace(setting, space):
    """Raise InvalidSubspace if space is none."""
    if not is_subspace(setting, space):
        raise InvalidSubspace("a subspace is a tuple of reduced rows of the setting")


def check_two_subspaces(setting, one, other):
    """Raise InvalidSetting if setting is none, or InvalidSubspace if one or other is none."""
    check_setting(setting)
    check_subspace(setting, one)
    check_subspace(setting, other)


def span(setting, rows):
    """Return the tuple of reduced rows that is the span of the rows."""
    check_setting(setting)
    if not isinstance(rows, list) or len(rows) > MOST_ROWS or not all([is_row(setting, row) for row in rows]):
        raise InvalidRows("rows are a list of at most 12 rows of the setting")
    return reduced_rows(setting[0], rows)


def members(setting, space):
    """Return the ascending list of all rows of a subspace."""
    check_setting(setting)
    check_subspace(setting, space)
    p, n = setting
    found = [(0,) * n]
    for base in space:
        found = [add_multiple(p, row, factor, base) for row in found for factor in range(p)]
    return sorted(found)


def contains(p, reduced, row):
    """Return whether a row is in the span of the reduced rows."""
    return leading_place(remainder(p, reduced, row)) is None


def has_row(setting, space, row):
    """Return whether a row is in a subspace."""
    check_setting(setting)
    check_subspace(setting, space)
    check_row(setting, row)
    return contains(setting[0], space, row)


def contains_all(p, reduced, rows):
    """Return whether all of the rows are in the span of the reduced rows."""
    return all([contains(p, reduced, row) for row in rows])


def is_inside(setting, one, other):
    """Return whether the subspace one is in the subspace other."""
    check_two_subspaces(setting, one, other)
    return contains_all(setting[0], other, one)
