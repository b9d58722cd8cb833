"""Points 7 and 8: numbers and lists of subspaces, and the number of flags."""

import unittest
from itertools import combinations

from smallspaces.counting import all_subspaces, between, count_flags, count_subspaces
from smallspaces.errors import InvalidNumber, InvalidSubspace, NotInside
from tests.helpers import (
    SETTINGS, Hostile, all_spaces, are_reduced, check_all_exceptions, check_raises, least_and_greatest, not_numbers,
    not_spaces, rows_of_spaces, setting_fault, some_pairs,
)


def by_the_rule(p, n, k):
    """Return N(n, k)."""
    if k in (0, n):
        return 1
    return by_the_rule(p, n - 1, k - 1) + p ** k * by_the_rule(p, n - 1, k)


def for_leading_places(setting, places):
    """Return the number of subspaces with these leading places."""
    p, n = setting
    pairs = [(place, later) for place in places for later in range(place + 1, n) if later not in places]
    return p ** len(pairs)


def leading_places(space):
    """Return the leading places of reduced rows."""
    return tuple(min(place for place, entry in enumerate(row) if entry != 0) for row in space)


def pairs_inside(setting, most):
    """Return pairs of subspaces of which the first one is in the second one."""
    of_space = rows_of_spaces(setting)
    pairs = [(one, other) for one, other in some_pairs(setting, 50000) if of_space[one] <= of_space[other]]
    return pairs[::len(pairs) // most + 1]


class CountSubspacesTest(unittest.TestCase):

    def test_against_the_rule(self):
        for setting in SETTINGS:
            p, n = setting
            for k in range(n + 1):
                found = count_subspaces(setting, k)
                self.assertEqual(found, by_the_rule(p, n, k), (setting, k))
                self.assertIs(type(found), int)

    def test_known_numbers(self):
        for setting, expected in [
            ((2, 1), [1, 1]), ((2, 2), [1, 3, 1]), ((2, 3), [1, 7, 7, 1]), ((2, 4), [1, 15, 35, 15, 1]),
            ((3, 1), [1, 1]), ((3, 2), [1, 4, 1]), ((3, 3), [1, 13, 13, 1]), ((3, 4), [1, 40, 130, 40, 1]),
            ((5, 1), [1, 1]), ((5, 2), [1, 6, 1]),
        ]:
            self.assertEqual([count_subspaces(setting, k) for k in range(setting[1] + 1)], expected)

    def test_against_the_numbers_for_leading_places(self):
        for setting in SETTINGS:
            for k in range(setting[1] + 1):
                numbers = [for_leading_places(setting, places) for places in combinations(range(setting[1]), k)]
                self.assertEqual(count_subspaces(setting, k), sum(numbers), (setting, k))

    def test_against_the_lists(self):
        for setting in SETTINGS:
            for k in range(setting[1] + 1):
                self.assertEqual(count_subspaces(setting, k), len(all_subspaces(setting, k)), (setting, k))
                spaces = [space for space in all_spaces(setting) if len(space) == k]
                self.assertEqual(count_subspaces(setting, k), len(spaces), (setting, k))

    def test_the_same_for_k_and_for_n_less_k(self):
        for setting in SETTINGS:
            for k in range(setting[1] + 1):
                self.assertEqual(count_subspaces(setting, k), count_subspaces(setting, setting[1] - k))

    def test_exceptions(self):
        for setting in SETTINGS:
            faults = [setting_fault(), (1, InvalidNumber, not_numbers(setting[1]))]
            for k in range(setting[1] + 1):
                check_all_exceptions(self, count_subspaces, (setting, k), faults)


class AllSubspacesTest(unittest.TestCase):

    def test_against_all_tuples_of_reduced_rows(self):
        for setting in SETTINGS:
            for k in range(setting[1] + 1):
                expected = sorted(space for space in all_spaces(setting) if len(space) == k)
                self.assertEqual(all_subspaces(setting, k), expected, (setting, k))

    def test_ascending_without_repetition(self):
        for setting in SETTINGS:
            for k in range(setting[1] + 1):
                found = all_subspaces(setting, k)
                self.assertIs(type(found), list)
                for at in range(len(found) - 1):
                    self.assertLess(found[at], found[at + 1])

    def test_the_values_are_subspaces(self):
        for setting in SETTINGS:
            for k in range(setting[1] + 1):
                for space in all_subspaces(setting, k):
                    self.assertIs(type(space), tuple)
                    self.assertEqual([type(row) for row in space], [tuple] * k)
                    self.assertEqual([type(entry) for row in space for entry in row], [int] * k * setting[1])
                    self.assertTrue(are_reduced(setting, space), space)

    def test_the_number_for_given_leading_places(self):
        for setting in SETTINGS:
            for k in range(setting[1] + 1):
                found = [leading_places(space) for space in all_subspaces(setting, k)]
                for places in combinations(range(setting[1]), k):
                    self.assertEqual(found.count(places), for_leading_places(setting, places), (setting, places))

    def test_the_least_and_the_greatest_dimension(self):
        for setting in SETTINGS:
            least, greatest = least_and_greatest(setting)
            self.assertEqual(all_subspaces(setting, 0), [least])
            self.assertEqual(all_subspaces(setting, setting[1]), [greatest])
        self.assertEqual(all_subspaces((2, 3), 0), [()])
        self.assertEqual(all_subspaces((2, 3), 3), [((1, 0, 0), (0, 1, 0), (0, 0, 1))])

    def test_exceptions(self):
        for setting in SETTINGS:
            faults = [setting_fault(), (1, InvalidNumber, not_numbers(setting[1]))]
            for k in range(setting[1] + 1):
                check_all_exceptions(self, all_subspaces, (setting, k), faults)


class BetweenTest(unittest.TestCase):

    def test_against_all_subspaces_of_the_dimension(self):
        for setting in SETTINGS:
            of_space = rows_of_spaces(setting)
            for one, other in pairs_inside(setting, 500):
                for k in range(len(other) - len(one) + 1):
                    expected = []
                    for space, rows in of_space.items():
                        if len(space) == len(one) + k and of_space[one] <= rows <= of_space[other]:
                            expected.append(space)
                    found = between(setting, one, other, k)
                    self.assertEqual(found, sorted(expected), (setting, one, other, k))
                    self.assertIs(type(found), list)

    def test_ascending_and_their_number(self):
        for setting in SETTINGS:
            for one, other in pairs_inside(setting, 300):
                difference = len(other) - len(one)
                for k in range(difference + 1):
                    found = between(setting, one, other, k)
                    self.assertEqual(len(found), by_the_rule(setting[0], difference, k), (setting, one, other, k))
                    for at in range(len(found) - 1):
                        self.assertLess(found[at], found[at + 1])

    def test_k_of_0_and_of_the_whole_difference(self):
        for setting in SETTINGS:
            for one, other in pairs_inside(setting, 300):
                self.assertEqual(between(setting, one, other, 0), [one])
                self.assertEqual(between(setting, one, other, len(other) - len(one)), [other])

    def test_one_and_other_equal(self):
        for setting in SETTINGS:
            for space in all_spaces(setting):
                self.assertEqual(between(setting, space, space, 0), [space])
                for k in (1, -1, True, False):
                    check_raises(self, InvalidNumber, between, (setting, space, space, k))

    def test_between_the_least_and_the_greatest_are_all(self):
        for setting in SETTINGS:
            least, greatest = least_and_greatest(setting)
            for k in range(setting[1] + 1):
                self.assertEqual(between(setting, least, greatest, k), all_subspaces(setting, k))

    def test_exceptions(self):
        for setting in SETTINGS:
            wrong = not_spaces(setting)
            for one, other in pairs_inside(setting, 3):
                difference = len(other) - len(one)
                faults = [setting_fault(), (1, InvalidSubspace, wrong), (2, InvalidSubspace, wrong)]
                faults.append((3, InvalidNumber, not_numbers(difference)))
                check_all_exceptions(self, between, (setting, one, other, difference), faults)

    def test_not_inside_ahead_of_invalid_number(self):
        for setting in SETTINGS:
            of_space = rows_of_spaces(setting)
            outside = [pair for pair in some_pairs(setting) if not of_space[pair[0]] <= of_space[pair[1]]]
            for one, other in outside[::len(outside) // 20 + 1]:
                difference = len(other) - len(one)
                for k in [0, 1, difference] + not_numbers(max(difference, 0)):
                    check_raises(self, NotInside, between, (setting, one, other, k))

    def test_wrong_subspaces_ahead_of_not_inside(self):
        one, other = ((1, 0),), ((0, 1),)
        check_raises(self, NotInside, between, ((2, 2), one, other, 0))
        check_raises(self, NotInside, between, ((2, 2), ((1, 0), (0, 1)), one, 0))
        for wrong in not_spaces((2, 2)):
            check_raises(self, InvalidSubspace, between, ((2, 2), wrong, other, 0))
            check_raises(self, InvalidSubspace, between, ((2, 2), one, wrong, 0))
            check_raises(self, InvalidSubspace, between, ((2, 2), one, wrong, Hostile()))


class CountFlagsTest(unittest.TestCase):

    def flags_one_by_one(self, setting):
        """Return the number of flags, gone through one by one."""
        of_space = rows_of_spaces(setting)
        by_dimension = [[space for space in of_space if len(space) == k] for k in range(setting[1] + 1)]
        flags = [[space] for space in by_dimension[0]]
        for spaces in by_dimension[1:]:
            flags = [flag + [space] for flag in flags for space in spaces if of_space[flag[-1]] <= of_space[space]]
        return len(flags)

    def test_against_flags_gone_through_one_by_one(self):
        for setting in SETTINGS:
            found = count_flags(setting)
            self.assertEqual(found, self.flags_one_by_one(setting), setting)
            self.assertIs(type(found), int)

    def test_the_product_of_the_numbers_of_subspaces_of_dimension_1(self):
        for p, n in SETTINGS:
            expected = 1
            for length in range(1, n + 1):
                expected = expected * count_subspaces((p, length), 1)
            self.assertEqual(count_flags((p, n)), expected)

    def test_exceptions(self):
        for setting in SETTINGS:
            check_all_exceptions(self, count_flags, (setting,), [setting_fault()])


if __name__ == "__main__":
    unittest.main()
