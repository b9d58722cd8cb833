"""Distances of subspaces, and roads from neighbour to neighbour."""

from smallspaces.meeting import meet, sum_of
from smallspaces.spans import check_two_subspaces, contains_all, is_subspace, reduced_rows


def distance(setting, one, other):
    """Return the dimension of the sum of two subspaces less that of their meet."""
    # sum_of checks the arguments.
    return len(sum_of(setting, one, other)) - len(meet(setting, one, other))


def climb(p, low, high):
    """Return a list of subspaces from low to high, each in the next one and a neighbour of it; low is in high."""
    steps = [low]
    for row in high:
        grown = reduced_rows(p, steps[-1] + (row,))
        if grown != steps[-1]:
            steps.append(grown)
    return steps


def road(setting, one, other):
    """Return a shortest list of subspaces from one to other, each a neighbour of the next one."""
    # meet checks the arguments.
    common = meet(setting, one, other)
    p = setting[0]
    # Each step down to the meet or up from it changes the dimension by 1: together they are as many as the distance.
    return climb(p, common, one)[::-1] + climb(p, common, other)[1:]


def are_neighbours(p, one, other):
    """Return whether two subspaces are neighbours."""
    if len(one) > len(other):
        return are_neighbours(p, other, one)
    return len(other) - len(one) == 1 and contains_all(p, other, one)


def is_road(setting, one, other, value):
    """Return whether value is a list of subspaces from one to other, each a neighbour of the next one."""
    check_two_subspaces(setting, one, other)
    if not isinstance(value, list) or not all([is_subspace(setting, space) for space in value]):
        return False
    if len(value) == 0 or value[0] != one or value[-1] != other:
        return False
    return all([are_neighbours(setting[0], space, after) for space, after in zip(value, value[1:])])
