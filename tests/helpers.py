"""What several tests need: settings, values that are none, and answers that are found the slow way."""

from fractions import Fraction
from itertools import product as tuples_of
from math import gcd

from smallspaces.errors import InvalidSetting

SETTINGS = [(2, 1), (2, 2), (2, 3), (2, 4), (3, 1), (3, 2), (3, 3), (3, 4), (5, 1), (5, 2)]


class Hostile:
    """An object that fails at whatever is asked of it."""

    def fail(self, *rest):
        raise RuntimeError("nobody may ask this object")

    __eq__ = __ne__ = __lt__ = __le__ = __gt__ = __ge__ = fail
    __hash__ = __len__ = __iter__ = __getitem__ = __contains__ = __bool__ = fail
    __index__ = __int__ = __add__ = __mul__ = __mod__ = __sub__ = __str__ = __repr__ = fail


def endless_list():
    """Return a list that contains itself."""
    found = []
    found.append(found)
    return found


# Objects that are no setting, no row, no list of rows and no subspace ("any object" of point 1).
OBJECTS = [
    None, True, False, 0, 1, 2, -1, 10 ** 50, "", "2 3", "23", b"", b"\x02\x03", "\ud800", object(), Hostile(),
    endless_list(), {}, {2: 3}, {(0,): (1,)}, set(), {2, 3}, frozenset({2, 3}), range(2), iter([2, 3]), len, int, tuple,
    Fraction(2), [[[]]], (((),),), [(True,)], ((True,),),
]

NOT_SETTINGS = OBJECTS + [
    (), [], (2,), (2, 3, 1), ((2, 3),), (2, (3,)), ((2,), 3), [2, 3], [(2, 3)], "23", "ab", ("2", "3"), ("2", 3),
    (2, "3"), (None, 3), (2, None), ([], 1), (2, []), ({}, 1), (Hostile(), 2), (2, Hostile()), (Hostile(), Hostile()),
    (0, 1), (1, 1), (4, 1), (6, 1), (7, 1), (-2, 1), (-3, 2), (-1, 1), (8, 2), (9, 2), (10, 2), (11, 1), (25, 1),
    (10 ** 50, 1), (4, 2), (4, 4), (2, 0), (3, 0), (5, 0), (2, 5), (3, 5), (5, 5), (5, 3), (5, 4), (2, -1), (5, -1),
    (2, 10 ** 50), (True, 2), (False, 2), (2, True), (3, True), (5, True), (2, False), (True, True), (3, 2, None),
    (Fraction(2), 2), (2, Fraction(2)), {2: 1, 3: 1}, range(2, 4),
]

NOT_ENTRIES = [-1, 10 ** 50, -10 ** 50, True, False, "0", "1", None, [], [0], (0,), Hostile()]


def all_rows(setting):
    """Return the ascending list of all rows of a setting."""
    p, n = setting
    return [row for row in tuples_of(range(p), repeat=n)]


def not_rows(setting):
    """Return values that are no rows of the setting."""
    p, n = setting
    found = OBJECTS + [
        (), [], [0] * n, [1] * n, list(range(n)), "0" * n, b"\x00" * n, range(n), (0,) * (n - 1), (1,) * (n - 1),
        (0,) * (n + 1), (1,) * (n + 1), ((0,) * n,), [(0,) * n], ((0,) * n, (0,) * n), {1: 1}, {0}, None,
        tuple(["0"] * n), tuple([None] * n), tuple([()] * n), tuple([(0,)] * n), tuple([[]] * n), (Fraction(0),) * n,
    ]
    for place in range(n):
        for entry in NOT_ENTRIES + [-p, p, p + 1, 2 * p]:
            for rest in (0, 1):
                found.append((rest,) * place + (entry,) + (rest,) * (n - place - 1))
    return found


def not_numbers(greatest):
    """Return values that are no integers from 0 to greatest."""
    found = [value for value in OBJECTS if type(value) is not int]
    found = found + [-greatest - 1, greatest + 2, 2 * greatest + 1, 10 ** 50, -10 ** 50]
    found = found + [(), [], (1,), [1], [0], "0", "1", b"1", Hostile()]
    return found + [-1, greatest + 1]


def plus(p, one, other):
    """Return the sum of two rows."""
    found = []
    for place in range(len(one)):
        found.append((one[place] + other[place]) % p)
    return tuple(found)


def made_by_adding(setting, rows):
    """Return the ascending list of all rows that adding the rows again and again makes."""
    p, n = setting
    found = {(0,) * n}
    fresh = [(0,) * n]
    while fresh:
        reached = {plus(p, row, added) for row in fresh for added in rows} - found
        found = found | reached
        fresh = sorted(reached)
    return sorted(found)


def are_reduced(setting, rows):
    """Return whether a tuple of rows fulfils each condition of point 3."""
    zero = (0,) * setting[1]
    places = []
    for row in rows:
        if row == zero:
            return False
        places.append(min(place for place in range(setting[1]) if row[place] != 0))
    for at in range(len(rows) - 1):
        if places[at] >= places[at + 1]:
            return False
    for at, place in enumerate(places):
        if rows[at][place] != 1:
            return False
        for other in range(len(rows)):
            if other != at and rows[other][place] != 0:
                return False
    return True


def all_spaces(setting):
    """Return all tuples of reduced rows of a setting, each one made of a shorter one."""
    found = [()]
    for space in found:
        for row in all_rows(setting):
            if are_reduced(setting, space + (row,)):
                found.append(space + (row,))
    return found


def least_and_greatest(setting):
    """Return the subspace with only the zero row, and the one with all rows."""
    n = setting[1]
    return (), tuple([(0,) * place + (1,) + (0,) * (n - place - 1) for place in range(n)])


def not_spaces(setting):
    """Return values that are no tuples of reduced rows of the setting."""
    p, n = setting
    zero = (0,) * n
    first = (1,) + (0,) * (n - 1)
    last = (0,) * (n - 1) + (1,)
    found = OBJECTS + [
        [], [first], first, zero, (zero,), (first, first), (first, zero), (zero, first), (last, last), ([first],),
        (list(first),), {first: first}, {first}, iter([first]), (first, None), (None, first), (first, Hostile()), "",
        (first + (0,),), (first[1:],), ((1,) * (n + 1),), ((),), ((), ()), (first,) * 5, tuple(all_rows(setting)),
        ((True,) + first[1:],), (first[:-1] + (True,),),
    ]
    if p > 2:
        found = found + [((p - 1,) + first[1:],), (last[:-1] + (2,),)]
    if n > 1:
        found = found + [(last, first), (first, (1,) + last[1:]), ((1,) + last[1:], last)]
        for entry in (True, False, -1, p, "0", None, Hostile()):
            found.append(((1, entry) + (0,) * (n - 2),))
    return found


def spaces_by_rows(setting):
    """Return a dict from the frozenset of the rows of each subspace to the subspace."""
    return {frozenset(made_by_adding(setting, space)): space for space in all_spaces(setting)}


def rows_of_spaces(setting):
    """Return a dict from each subspace to the frozenset of its rows."""
    return {space: rows for rows, space in spaces_by_rows(setting).items()}


def some_pairs(setting, most=5000):
    """Return all pairs of subspaces, or many of them if there are more than most."""
    spaces = all_spaces(setting)
    pairs = list(tuples_of(spaces, repeat=2))
    # A step that shares no divisor with the number of subspaces meets each of them at both places of a pair.
    step = len(pairs) // most + 1
    while gcd(step, len(spaces)) > 1:
        step += 1
    return pairs[::step]


def numbers(many, seed):
    """Return many numbers from 0 to 9999 in no apparent order, the same ones for the same seed."""
    found = []
    state = seed
    for _ in range(many):
        state = (state * 1103515245 + 12345) % 2 ** 31
        found.append(state // 2 ** 8 % 10000)
    return found


def some_rows(setting, many, seed):
    """Return a list of many rows of the setting in no apparent order, with repetitions."""
    rows = all_rows(setting)
    return [rows[number % len(rows)] for number in numbers(many, seed)]


def check_raises(test, expected, function, arguments):
    """Check that a call raises an exception of exactly the expected class."""
    try:
        function(*arguments)
    except Exception as error:
        test.assertIs(type(error), expected, error)
        return
    test.fail(f"{function.__name__} did not raise {expected.__name__}")


def check_all_exceptions(test, function, good, faults):
    """Check each documented exception, also where several arguments are wrong.

    good are arguments that raise nothing. faults is the list of the exceptions in the interface's
    order: the argument's place, the class and the wrong values.
    """
    function(*good)
    for at, (place, expected, wrong_values) in enumerate(faults):
        for wrong in wrong_values:
            arguments = list(good)
            arguments[place] = wrong
            check_raises(test, expected, function, arguments)
            for later_place, _, later_values in faults[at + 1:]:
                for later in later_values[:3] + later_values[-1:]:
                    worse = list(arguments)
                    worse[later_place] = later
                    check_raises(test, expected, function, worse)
            for later_place, _, later_values in faults[at + 1:]:
                arguments[later_place] = later_values[0]
            check_raises(test, expected, function, arguments)


def setting_fault():
    """Return the fault that all functions with a setting as their first argument have in common."""
    return (0, InvalidSetting, NOT_SETTINGS)
