"""Settings and rows: which values are some, and calculations with rows."""

from smallspaces.errors import InvalidNumber, InvalidRow, InvalidSetting

# The greatest length of rows for each prime.
LONGEST = {2: 4, 3: 4, 5: 2}


def is_number(value, low, high):
    """Return whether value is an integer from low to high."""
    # Python takes True and False for integers, the package does not.
    if not isinstance(value, int) or isinstance(value, bool):
        return False
    return low <= value <= high


def check_number(value, greatest):
    """Raise InvalidNumber if value is not an integer from 0 to greatest."""
    if not is_number(value, 0, greatest):
        raise InvalidNumber(f"the number is not an integer from 0 to {greatest}")


def is_setting(value):
    """Return whether value is a setting."""
    if not isinstance(value, tuple) or len(value) != 2:
        return False
    p, n = value
    # Only an integer is looked up: other values may be no keys.
    return is_number(p, 2, 5) and p in LONGEST and is_number(n, 1, LONGEST[p])


def check_setting(setting):
    """Raise InvalidSetting if setting is none."""
    if not is_setting(setting):
        raise InvalidSetting("a setting is a tuple of 2, 3 or 5 and an integer from 1 to 4, for 5 from 1 to 2")


def is_row(setting, value):
    """Return whether value is a row of the setting."""
    check_setting(setting)
    p, n = setting
    if not isinstance(value, tuple) or len(value) != n:
        return False
    return all([is_number(entry, 0, p - 1) for entry in value])


def check_row(setting, row):
    """Raise InvalidRow if row is none."""
    if not is_row(setting, row):
        raise InvalidRow("a row is a tuple of n integers from 0 to p - 1")


def combine(setting, one, factor, other):
    """Return the sum of the row one and the multiple of the row other by factor."""
    check_setting(setting)
    check_row(setting, one)
    p = setting[0]
    check_number(factor, p - 1)
    check_row(setting, other)
    return add_multiple(p, one, factor, other)


def add_multiple(p, one, factor, other):
    """Return what combine returns, for arguments that are known to be valid."""
    return tuple([(entry + factor * added) % p for entry, added in zip(one, other)])


def unit_row(length, place):
    """Return the row of this length with 1 at one place and 0 at all others."""
    return tuple([int(at == place) for at in range(length)])


def product(setting, one, other):
    """Return the product of two rows."""
    check_setting(setting)
    check_row(setting, one)
    check_row(setting, other)
    return sum([left * right for left, right in zip(one, other)]) % setting[0]
