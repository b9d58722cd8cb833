"""Points 4 to 6: sums, meets, opposites and complements."""

import unittest

from smallspaces.errors import InvalidSubspace
from smallspaces.meeting import complements, meet, opposite, sum_of
from smallspaces.spans import is_inside
from tests.helpers import (
    SETTINGS, all_rows, all_spaces, are_reduced, check_all_exceptions, check_raises, least_and_greatest, not_spaces,
    plus, rows_of_spaces, setting_fault, some_pairs, spaces_by_rows,
)


def product_of(p, one, other):
    """Return the product of two rows."""
    total = 0
    for place in range(len(one)):
        total = total + one[place] * other[place]
    return total % p


def check_subspace(test, setting, space):
    """Check that a value is a tuple of reduced rows, which are tuples of integers."""
    test.assertIs(type(space), tuple)
    for row in space:
        test.assertIs(type(row), tuple)
        test.assertEqual([type(entry) for entry in row], [int] * setting[1])
    test.assertTrue(are_reduced(setting, space), space)


class SumAndMeetTest(unittest.TestCase):

    def test_sums_against_all_rows_of_both(self):
        for setting in SETTINGS:
            of_rows, of_space = spaces_by_rows(setting), rows_of_spaces(setting)
            for one, other in some_pairs(setting):
                sums = {plus(setting[0], left, right) for left in of_space[one] for right in of_space[other]}
                found = sum_of(setting, one, other)
                self.assertEqual(found, of_rows[frozenset(sums)], (setting, one, other))
                check_subspace(self, setting, found)

    def test_meets_against_all_rows_of_both(self):
        for setting in SETTINGS:
            of_rows, of_space = spaces_by_rows(setting), rows_of_spaces(setting)
            for one, other in some_pairs(setting, 20000):
                found = meet(setting, one, other)
                self.assertEqual(found, of_rows[of_space[one] & of_space[other]], (setting, one, other))
                check_subspace(self, setting, found)

    def test_the_order_of_both_does_not_matter(self):
        for setting in SETTINGS:
            for one, other in some_pairs(setting):
                self.assertEqual(sum_of(setting, one, other), sum_of(setting, other, one))
                self.assertEqual(meet(setting, one, other), meet(setting, other, one))

    def test_the_dimensions_of_sum_and_meet_are_those_of_both(self):
        for setting in SETTINGS:
            for one, other in some_pairs(setting):
                dimensions = len(sum_of(setting, one, other)) + len(meet(setting, one, other))
                self.assertEqual(dimensions, len(one) + len(other), (setting, one, other))

    def test_a_subspace_in_another_one(self):
        for setting in SETTINGS:
            of_space = rows_of_spaces(setting)
            for one, other in some_pairs(setting, 20000):
                if of_space[one] <= of_space[other]:
                    self.assertEqual(sum_of(setting, one, other), other)
                    self.assertEqual(meet(setting, one, other), one)

    def test_the_least_and_the_greatest_subspace(self):
        for setting in SETTINGS:
            least, greatest = least_and_greatest(setting)
            for space in all_spaces(setting):
                self.assertEqual(sum_of(setting, space, least), space)
                self.assertEqual(meet(setting, space, least), least)
                self.assertEqual(sum_of(setting, space, greatest), greatest)
                self.assertEqual(meet(setting, space, greatest), space)
                self.assertEqual(sum_of(setting, space, space), space)
                self.assertEqual(meet(setting, space, space), space)

    def test_a_subspace_in_another_one_and_a_third_one(self):
        for setting in SETTINGS:
            spaces, of_space = all_spaces(setting), rows_of_spaces(setting)
            inside = [(one, two) for one, two in some_pairs(setting, 20000) if of_space[one] <= of_space[two]]
            # About 20000 calls for each setting are enough.
            step = len(inside) * len(spaces) // 5000 + 1
            for at, (low, high) in enumerate(inside):
                for third in spaces[at % step::step]:
                    left = sum_of(setting, low, meet(setting, third, high))
                    right = meet(setting, sum_of(setting, low, third), high)
                    self.assertEqual(left, right, (setting, low, third, high))

    def test_the_rule_for_a_third_one_needs_a_subspace_in_another_one(self):
        one, other, third = ((1, 0),), ((0, 1),), ((1, 1),)
        self.assertEqual(sum_of((2, 2), one, meet((2, 2), third, other)), one)
        self.assertEqual(meet((2, 2), sum_of((2, 2), one, third), other), other)

    def test_exceptions(self):
        for setting in SETTINGS:
            least, greatest = least_and_greatest(setting)
            wrong = not_spaces(setting)
            faults = [setting_fault(), (1, InvalidSubspace, wrong), (2, InvalidSubspace, wrong)]
            for function in (sum_of, meet):
                for one, other in ((least, greatest), (greatest, least), (greatest, greatest), (least, least)):
                    check_all_exceptions(self, function, (setting, one, other), faults)

    def test_the_second_subspace_alone_is_of_another_setting(self):
        for function in (sum_of, meet):
            check_raises(self, InvalidSubspace, function, ((2, 2), ((1, 1),), ((1, 0, 1),)))
            check_raises(self, InvalidSubspace, function, ((2, 2), ((1, 1),), ((1, 2),)))
            check_raises(self, InvalidSubspace, function, ((2, 3), (), ((1, 1),)))


class OppositeTest(unittest.TestCase):

    def test_against_all_rows_and_their_products(self):
        for setting in SETTINGS:
            of_rows = spaces_by_rows(setting)
            for rows, space in of_rows.items():
                expected = []
                for row in all_rows(setting):
                    if all(product_of(setting[0], row, inside) == 0 for inside in rows):
                        expected.append(row)
                found = opposite(setting, space)
                self.assertEqual(found, of_rows[frozenset(expected)], (setting, space))
                check_subspace(self, setting, found)

    def test_the_dimension(self):
        for setting in SETTINGS:
            for space in all_spaces(setting):
                self.assertEqual(len(opposite(setting, space)), setting[1] - len(space))

    def test_the_opposite_of_the_opposite(self):
        for setting in SETTINGS:
            for space in all_spaces(setting):
                self.assertEqual(opposite(setting, opposite(setting, space)), space)

    def test_the_opposites_of_sums_and_meets(self):
        for setting in SETTINGS:
            for one, other in some_pairs(setting):
                of_one, of_other = opposite(setting, one), opposite(setting, other)
                of_sum, of_meet = opposite(setting, sum_of(setting, one, other)), meet(setting, one, other)
                self.assertEqual(of_sum, meet(setting, of_one, of_other), (setting, one, other))
                self.assertEqual(opposite(setting, of_meet), sum_of(setting, of_one, of_other), (setting, one, other))

    def test_the_order_of_subspaces_turns_round(self):
        for setting in SETTINGS:
            for one, other in some_pairs(setting):
                turned = is_inside(setting, opposite(setting, other), opposite(setting, one))
                self.assertIs(turned, is_inside(setting, one, other))

    def test_subspaces_that_are_their_own_opposites(self):
        for setting, space in [
            ((2, 2), ((1, 1),)), ((5, 2), ((1, 2),)), ((5, 2), ((1, 3),)), ((2, 4), ((1, 0, 0, 1), (0, 1, 1, 0))),
            ((2, 4), ((1, 1, 0, 0), (0, 0, 1, 1))), ((3, 4), ((1, 0, 1, 1), (0, 1, 1, 2))),
        ]:
            self.assertEqual(opposite(setting, space), space)

    def test_the_least_and_the_greatest_subspace(self):
        for setting in SETTINGS:
            least, greatest = least_and_greatest(setting)
            self.assertEqual(opposite(setting, least), greatest)
            self.assertEqual(opposite(setting, greatest), least)

    def test_exceptions(self):
        for setting in SETTINGS:
            faults = [setting_fault(), (1, InvalidSubspace, not_spaces(setting))]
            for space in least_and_greatest(setting):
                check_all_exceptions(self, opposite, (setting, space), faults)


class ComplementsTest(unittest.TestCase):

    def complements_by_rows(self, setting, space, of_space):
        """Return the list of the complements, found by all rows."""
        p, n = setting
        zero, found = (0,) * n, []
        for other, rows in of_space.items():
            sums = {plus(p, left, right) for left in of_space[space] for right in rows}
            if of_space[space] & rows == {zero} and len(sums) == p ** n:
                found.append(other)
        return sorted(found)

    def test_against_all_subspaces_by_all_rows(self):
        for setting in SETTINGS:
            of_space = rows_of_spaces(setting)
            spaces = all_spaces(setting)
            for space in spaces[::len(spaces) // 40 + 1] + spaces[-1:]:
                found = complements(setting, space)
                self.assertEqual(found, self.complements_by_rows(setting, space, of_space), (setting, space))

    def test_against_all_subspaces_by_meet_and_sum(self):
        for setting in SETTINGS:
            least, greatest = least_and_greatest(setting)
            spaces = all_spaces(setting)
            for space in spaces[::len(spaces) // 70 + 1]:
                found = complements(setting, space)
                for other in spaces:
                    fits = meet(setting, space, other) == least and sum_of(setting, space, other) == greatest
                    self.assertIs(other in found, fits, (setting, space, other))

    def test_their_number_and_order(self):
        for setting in SETTINGS:
            p, n = setting
            for space in all_spaces(setting):
                found = complements(setting, space)
                self.assertIs(type(found), list)
                self.assertEqual(len(found), p ** (len(space) * (n - len(space))), (setting, space))
                for at in range(len(found) - 1):
                    self.assertLess(found[at], found[at + 1])

    def test_the_values_are_subspaces(self):
        for setting in SETTINGS:
            for space in all_spaces(setting)[::5]:
                for found in complements(setting, space):
                    check_subspace(self, setting, found)
                    self.assertEqual(len(found), setting[1] - len(space))

    def test_each_is_a_complement_of_its_complements(self):
        for setting in SETTINGS:
            for space in all_spaces(setting)[::20]:
                for other in complements(setting, space):
                    self.assertIn(space, complements(setting, other))

    def test_the_least_and_the_greatest_subspace(self):
        for setting in SETTINGS:
            least, greatest = least_and_greatest(setting)
            self.assertEqual(complements(setting, least), [greatest])
            self.assertEqual(complements(setting, greatest), [least])

    def test_exceptions(self):
        for setting in SETTINGS:
            faults = [setting_fault(), (1, InvalidSubspace, not_spaces(setting))]
            for space in least_and_greatest(setting):
                check_all_exceptions(self, complements, (setting, space), faults)


if __name__ == "__main__":
    unittest.main()
