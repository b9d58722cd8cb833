"""How many subspaces and flags there are, and lists of the subspaces."""

from itertools import combinations

from smallspaces.errors import NotInside
from smallspaces.rows import check_number, check_setting
from smallspaces.spans import check_two_subspaces, contains_all


def power(base, exponent):
    """Return base to the power of exponent."""
    result = 1
    for _ in range(exponent):
        result = result * base
    return result


def number_of_subspaces(p, n, k):
    """Return what count_subspaces returns, for arguments that are known to be valid."""
    if k == 0 or k == n:
        return 1
    return number_of_subspaces(p, n - 1, k - 1) + power(p, k) * number_of_subspaces(p, n - 1, k)


def count_subspaces(setting, k):
    """Return the number of subspaces of dimension k."""
    check_setting(setting)
    p, n = setting
    check_number(k, n)
    return number_of_subspaces(p, n, k)


def rows_leading_at(setting, leading, places):
    """Return the reduced rows with one leading place, if the places are those of all reduced rows together."""
    p, n = setting
    rows = [()]
    for place in range(n):
        if place == leading:
            entries = [1]
        elif place < leading or place in places:
            entries = [0]
        else:
            entries = list(range(p))
        rows = [row + (entry,) for row in rows for entry in entries]
    return rows


def subspaces_leading_at(setting, places):
    """Return the list of all subspaces whose reduced rows have these leading places."""
    spaces = [()]
    for leading in places:
        rows = rows_leading_at(setting, leading, places)
        spaces = [space + (row,) for space in spaces for row in rows]
    return spaces


def all_subspaces(setting, k):
    """Return the ascending list of all subspaces of dimension k."""
    check_setting(setting)
    n = setting[1]
    check_number(k, n)
    found = []
    for places in combinations(range(n), k):
        found.extend(subspaces_leading_at(setting, places))
    return sorted(found)


def between(setting, one, other, k):
    """Return the ascending list of the subspaces between two, with a dimension greater by k than that of the first."""
    check_two_subspaces(setting, one, other)
    p = setting[0]
    if not contains_all(p, other, one):
        raise NotInside("the first subspace is not in the second one")
    check_number(k, len(other) - len(one))
    found = [space for space in all_subspaces(setting, len(one) + k) if contains_all(p, space, one)]
    return [space for space in found if contains_all(p, other, space)]


def count_flags(setting):
    """Return the number of flags."""
    check_setting(setting)
    p, n = setting
    flags = 1
    for length in range(1, n + 1):
        flags = flags * number_of_subspaces(p, length, 1)
    return flags
