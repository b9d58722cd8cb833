"""Sums, meets, opposites and complements of subspaces."""

from smallspaces.counting import all_subspaces
from smallspaces.rows import check_setting
from smallspaces.spans import check_subspace, check_two_subspaces, leading_place, reduced_rows


def sum_of(setting, one, other):
    """Return the span of the rows of both subspaces."""
    check_two_subspaces(setting, one, other)
    return reduced_rows(setting[0], one + other)


def meet(setting, one, other):
    """Return the subspace of the rows that are in both subspaces."""
    check_two_subspaces(setting, one, other)
    # The meet is the opposite of the sum of the opposites.
    opposites = opposite_rows(setting, one) + opposite_rows(setting, other)
    return opposite_rows(setting, reduced_rows(setting[0], opposites))


def opposite_rows(setting, space):
    """Return what opposite returns, for arguments that are known to be valid."""
    p, n = setting
    places = [leading_place(base) for base in space]
    found = []
    for free in range(n):
        if free not in places:
            row = [0] * n
            row[free] = 1
            # Each reduced row has 1 at its own leading place and 0 at the other ones: one entry makes its product 0.
            for place, base in zip(places, space):
                row[place] = -base[free] % p
            found.append(tuple(row))
    return reduced_rows(p, found)


def opposite(setting, space):
    """Return the subspace of the rows whose product with each row of a subspace is 0."""
    check_setting(setting)
    check_subspace(setting, space)
    return opposite_rows(setting, space)


def complements(setting, space):
    """Return the ascending list of all complements of a subspace."""
    check_setting(setting)
    check_subspace(setting, space)
    p, n = setting
    found = all_subspaces(setting, n - len(space))
    # The dimensions make n together, so the meet has only the zero row if the sum has all rows.
    return [other for other in found if len(reduced_rows(p, space + other)) == n]
