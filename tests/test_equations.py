"""Point 10: systems of equations."""

import unittest
from fractions import Fraction
from itertools import product as tuples_of

from smallspaces.equations import count_solutions, refutation, solve
from smallspaces.errors import InvalidSetting, InvalidSystem, NoSolution
from smallspaces.meeting import opposite
from smallspaces.spans import span
from tests.helpers import (
    NOT_ENTRIES, NOT_SETTINGS, OBJECTS, SETTINGS, Hostile, all_rows, are_reduced, check_all_exceptions, check_raises,
    least_and_greatest, made_by_adding, not_rows, numbers, plus, setting_fault, some_rows,
)

FUNCTIONS = (solve, count_solutions, refutation)


def product_of(p, one, other):
    """Return the product of two rows."""
    total = 0
    for place in range(len(one)):
        total = total + one[place] * other[place]
    return total % p


def solutions_by_trying(setting, system):
    """Return the ascending list of the solutions, found by trying all rows."""
    p = setting[0]
    found = []
    for tried in all_rows(setting):
        if all(product_of(p, row, tried) == right for row, right in system):
            found.append(tried)
    return found


def sums_of_multiples(setting, system, multiples):
    """Return the sum of these multiples of the rows, and that of the integers to the right."""
    p, n = setting
    row_sum, right_sum = (0,) * n, 0
    for times, (row, right) in zip(multiples, system):
        for _ in range(times):
            row_sum = plus(p, row_sum, row)
            right_sum = (right_sum + right) % p
    return row_sum, right_sum


def some_systems(setting, many, seed):
    """Return many systems of 0 to 8 equations, every second of which surely has solutions."""
    p = setting[0]
    found = []
    for at in range(many):
        length = at // 2 % 9
        rows = some_rows(setting, length, seed + at)
        rights = [number % p for number in numbers(length, seed + at + 50000)]
        if at % 2 == 0:
            wanted = some_rows(setting, 1, seed + at + 90000)[0]
            rights = [product_of(p, row, wanted) for row in rows]
        found.append(tuple(zip(rows, rights)))
    return found


def short_systems(setting, most):
    """Return all systems of at most so many equations."""
    equations = list(tuples_of(all_rows(setting), range(setting[0])))
    return [system for length in range(most + 1) for system in tuples_of(equations, repeat=length)]


def chosen_systems():
    """Return pairs of a setting and a system: all short ones of short settings, and some of all settings."""
    found = []
    for setting, most in (((2, 1), 4), ((3, 1), 3), ((5, 1), 2), ((2, 2), 3), ((3, 2), 2), ((2, 3), 2), ((5, 2), 1)):
        found = found + [(setting, system) for system in short_systems(setting, most)]
    for setting in SETTINGS:
        found = found + [(setting, system) for system in some_systems(setting, 200, 1000 * setting[0] + setting[1])]
    return found


def not_systems(setting):
    """Return values that are no systems of the setting."""
    p, n = setting
    row = (1,) * n
    good = (row, 1)
    wrong_equations = OBJECTS + [
        (), (row,), (row, 1, 0), [row, 1], (1, row), (row, row), (1, 1), row, {row: 1}, {row, 1}, iter(good), "ab",
        ((), 1), (list(row), 1), (good,), (good, good), (row, (1,)), (row, Fraction(1)), (None, None),
    ]
    wrong_equations = wrong_equations + [(row, right) for right in NOT_ENTRIES + [p, -p, p + 1]]
    wrong_equations = wrong_equations + [(wrong, 1) for wrong in not_rows(setting)]
    found = OBJECTS + [good, [good], [], {good: good}, {good}, iter((good,)), frozenset([good]), (good,) * 9, "", b""]
    found = found + [((row, 0),) * 9, (good,) * 10, (good,) * 1000, (row, 1, 0), ((good,),), range(0)]
    found = found + [(wrong,) for wrong in wrong_equations]
    found = found + [(good,) * (at % 8) + (wrong,) + (good,) * (7 - at % 8) for at, wrong in enumerate(wrong_equations)]
    # These have no solution, which only systems can have.
    return found + [((row, 0), (row, 1), Hostile()), ((row, 0), (row, 1), (row, p)), ((row, 0), (row, 1)) * 5]


class SolveTest(unittest.TestCase):

    def check_solved(self, setting, system):
        expected = solutions_by_trying(setting, system)
        if not expected:
            check_raises(self, NoSolution, solve, (setting, system))
            return
        found = solve(setting, system)
        self.assertIs(type(found), tuple)
        least, space = found
        self.assertEqual(least, expected[0], (setting, system))
        self.assertEqual([type(entry) for entry in least], [int] * setting[1])
        self.assertIs(type(least), tuple)
        self.assertIs(type(space), tuple)
        for row in space:
            self.assertIs(type(row), tuple)
            self.assertEqual([type(entry) for entry in row], [int] * setting[1])
        self.assertTrue(are_reduced(setting, space), (setting, system))
        led_to = sorted(plus(setting[0], least, row) for row in made_by_adding(setting, space))
        self.assertEqual(led_to, expected, (setting, system))

    def test_against_trying_all_rows(self):
        for setting, system in chosen_systems():
            self.check_solved(setting, system)

    def test_the_subspace_is_the_opposite_of_the_span_of_the_rows(self):
        for setting, system in chosen_systems():
            if solutions_by_trying(setting, system):
                rows = [row for row, _ in system]
                self.assertEqual(solve(setting, system)[1], opposite(setting, span(setting, rows)))

    def test_no_equation(self):
        for setting in SETTINGS:
            self.assertEqual(solve(setting, ()), ((0,) * setting[1], least_and_greatest(setting)[1]))

    def test_the_zero_row(self):
        for setting in SETTINGS:
            zero = (0,) * setting[1]
            self.assertEqual(solve(setting, ((zero, 0),)), (zero, least_and_greatest(setting)[1]))
            self.assertEqual(solve(setting, ((zero, 0),) * 8), (zero, least_and_greatest(setting)[1]))
            for right in range(1, setting[0]):
                check_raises(self, NoSolution, solve, (setting, ((zero, right),)))

    def test_one_solution(self):
        for setting in SETTINGS:
            units = least_and_greatest(setting)[1]
            for row in all_rows(setting):
                self.assertEqual(solve(setting, tuple(zip(units, row))), (row, ()))
                self.assertEqual(solve(setting, tuple(zip(units, row))[::-1] * 2), (row, ()))

    def test_by_hand(self):
        for setting, system, expected in [
            ((3, 2), (((1, 1), 2),), ((0, 2), ((1, 2),))),
            ((2, 3), (((1, 1, 0), 1), ((0, 1, 1), 1)), ((0, 1, 0), ((1, 1, 1),))),
            ((5, 2), (((1, 2), 3), ((1, 1), 1)), ((4, 2), ())),
            ((5, 2), (((0, 3), 2),), ((0, 4), ((1, 0),))),
            ((5, 1), (((3,), 1),), ((2,), ())),
            ((2, 4), (((1, 1, 1, 1), 1),), ((0, 0, 0, 1), ((1, 0, 0, 1), (0, 1, 0, 1), (0, 0, 1, 1)))),
            ((3, 3), (((1, 0, 2), 1), ((2, 0, 1), 2)), ((0, 0, 2), ((1, 0, 1), (0, 1, 0)))),
        ]:
            self.assertEqual(solve(setting, system), expected, (setting, system))

    def test_the_same_row_with_two_integers_to_the_right(self):
        for setting in SETTINGS:
            for row in all_rows(setting):
                for one, other in tuples_of(range(setting[0]), repeat=2):
                    if one != other:
                        check_raises(self, NoSolution, solve, (setting, ((row, one), (row, other))))


class CountSolutionsTest(unittest.TestCase):

    def test_against_trying_all_rows(self):
        for setting, system in chosen_systems():
            found = count_solutions(setting, system)
            self.assertEqual(found, len(solutions_by_trying(setting, system)), (setting, system))
            self.assertIs(type(found), int)

    def test_no_equation(self):
        for setting in SETTINGS:
            self.assertEqual(count_solutions(setting, ()), setting[0] ** setting[1])

    def test_no_solution(self):
        for setting in SETTINGS:
            zero = (0,) * setting[1]
            self.assertEqual(count_solutions(setting, ((zero, 1),)), 0)
            self.assertEqual(count_solutions(setting, ((zero, 0),) * 7 + ((zero, 1),)), 0)

    def test_one_solution(self):
        for setting in SETTINGS:
            units = least_and_greatest(setting)[1]
            self.assertEqual(count_solutions(setting, tuple((row, 1) for row in units)), 1)


class RefutationTest(unittest.TestCase):

    def check_refuted(self, setting, system):
        found = refutation(setting, system)
        if solutions_by_trying(setting, system):
            self.assertIsNone(found, (setting, system))
            return
        self.assertIs(type(found), tuple, (setting, system))
        self.assertEqual(len(found), len(system))
        for times in found:
            self.assertIs(type(times), int)
            self.assertTrue(0 <= times < setting[0], found)
        row_sum, right_sum = sums_of_multiples(setting, system, found)
        self.assertEqual(row_sum, (0,) * setting[1], (setting, system, found))
        self.assertNotEqual(right_sum, 0, (setting, system, found))

    def test_just_where_there_is_no_solution(self):
        for setting, system in chosen_systems():
            self.check_refuted(setting, system)

    def test_no_multiples_refute_a_system_that_has_solutions(self):
        for setting in ((2, 2), (2, 3), (3, 2)):
            for system in some_systems(setting, 40, 77):
                refuting = []
                for multiples in tuples_of(range(setting[0]), repeat=min(len(system), 5)):
                    row_sum, right_sum = sums_of_multiples(setting, system[:5], multiples)
                    if row_sum == (0,) * setting[1] and right_sum != 0:
                        refuting.append(multiples)
                self.assertIs(refutation(setting, system[:5]) is None, refuting == [])

    def test_no_equation(self):
        for setting in SETTINGS:
            self.assertIsNone(refutation(setting, ()))

    def test_the_zero_row(self):
        for setting in SETTINGS:
            zero = (0,) * setting[1]
            self.assertIsNone(refutation(setting, ((zero, 0),)))
            for right in range(1, setting[0]):
                self.check_refuted(setting, ((zero, right),))
                self.check_refuted(setting, ((zero, 0),) * 7 + ((zero, right),))

    def test_the_only_refutation(self):
        self.assertEqual(refutation((2, 1), (((1,), 0), ((1,), 1))), (1, 1))
        self.assertEqual(refutation((2, 1), (((0,), 1),)), (1,))
        self.assertEqual(refutation((2, 2), (((1, 1), 1), ((1, 0), 0), ((0, 1), 0))), (1, 1, 1))
        self.assertEqual(refutation((2, 2), (((1, 1), 1), ((0, 0), 0), ((1, 0), 0), ((0, 1), 0)))[2:], (1, 1))

    def test_one_of_two_refutations(self):
        self.assertIn(refutation((3, 1), (((1,), 0), ((1,), 1))), [(1, 2), (2, 1)])
        self.assertIn(refutation((3, 2), (((1, 2), 1), ((2, 1), 1))), [(1, 1), (2, 2)])


class TogetherTest(unittest.TestCase):

    def test_the_three_functions_agree(self):
        for setting, system in chosen_systems():
            many = count_solutions(setting, system)
            if refutation(setting, system) is None:
                self.assertEqual(many, setting[0] ** len(solve(setting, system)[1]))
            else:
                self.assertEqual(many, 0)
                check_raises(self, NoSolution, solve, (setting, system))


class ExceptionsTest(unittest.TestCase):

    def test_exceptions(self):
        for setting in SETTINGS:
            row = (1,) * setting[1]
            faults = [setting_fault(), (1, InvalidSystem, not_systems(setting))]
            for function in FUNCTIONS:
                check_all_exceptions(self, function, (setting, ((row, 1),)), faults)

    def test_at_most_8_equations(self):
        for setting in SETTINGS:
            row = (1,) * setting[1]
            for function in FUNCTIONS:
                for many in range(9):
                    function(setting, ((row, 1),) * many)
                for many in (9, 10, 16, 100):
                    check_raises(self, InvalidSystem, function, (setting, ((row, 1),) * many))

    def test_systems_without_solution_hide_no_exception_that_is_listed_before(self):
        for setting in SETTINGS:
            zero = (0,) * setting[1]
            check_raises(self, NoSolution, solve, (setting, ((zero, 1),)))
            for wrong in NOT_SETTINGS:
                check_raises(self, InvalidSetting, solve, (wrong, ((zero, 1),)))
            for wrong in ([(zero, 1)], ((zero, 1), None), (None, (zero, 1)), ((zero, 1),) * 9):
                for function in FUNCTIONS:
                    check_raises(self, InvalidSystem, function, (setting, wrong))

    def test_a_system_of_another_setting(self):
        for function in FUNCTIONS:
            check_raises(self, InvalidSystem, function, ((2, 2), (((1, 1, 1), 1),)))
            check_raises(self, InvalidSystem, function, ((2, 3), (((1, 1), 1),)))
            check_raises(self, InvalidSystem, function, ((2, 2), (((1, 2), 1),)))
            check_raises(self, InvalidSystem, function, ((2, 2), (((1, 1), 2),)))
            function((3, 2), (((1, 2), 2),))


if __name__ == "__main__":
    unittest.main()
