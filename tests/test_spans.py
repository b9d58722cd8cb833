"""Point 3 and the third sentence of point 4: reduced rows, spans, members, and which subspace is in which."""

import unittest
from itertools import product as tuples_of

from smallspaces.errors import InvalidRow, InvalidRows, InvalidSubspace
from smallspaces.spans import has_row, is_inside, is_subspace, members, span
from tests.helpers import (
    OBJECTS, SETTINGS, Hostile, all_rows, all_spaces, are_reduced, check_all_exceptions, check_raises, made_by_adding,
    not_rows, not_spaces, setting_fault, some_rows,
)


def not_lists_of_rows(setting):
    """Return values that are no lists of at most 12 rows of the setting."""
    row = all_rows(setting)[-1]
    zero = (0,) * setting[1]
    found = OBJECTS + [(), (row,), (row, row), row, [row] * 13, [zero] * 13, [row] * 100, all_rows(setting)[:1] * 13]
    found = found + [{row: row}, {row}, iter([row]), range(0), "", [[row]], [(row,)], [[]], [()]]
    for wrong in not_rows(setting):
        found = found + [[wrong], [row, wrong], [wrong, row], [zero] * 11 + [wrong]]
    return found


class SubspaceTest(unittest.TestCase):

    def test_reduced_rows(self):
        for setting in SETTINGS:
            for space in all_spaces(setting):
                self.assertIs(is_subspace(setting, space), True, space)

    def test_the_empty_tuple(self):
        for setting in SETTINGS:
            self.assertIs(is_subspace(setting, ()), True)

    def test_all_tuples_of_up_to_three_rows(self):
        for setting in SETTINGS:
            for many in range(4):
                if len(all_rows(setting)) ** many > 20000:
                    continue
                for rows in tuples_of(all_rows(setting), repeat=many):
                    self.assertIs(is_subspace(setting, rows), are_reduced(setting, rows), rows)

    def test_a_zero_row(self):
        self.assertIs(is_subspace((2, 3), ((0, 0, 0),)), False)
        self.assertIs(is_subspace((2, 3), ((1, 0, 0), (0, 0, 0))), False)
        self.assertIs(is_subspace((2, 3), ((0, 0, 0), (1, 0, 0))), False)

    def test_leading_places_that_do_not_ascend(self):
        self.assertIs(is_subspace((2, 3), ((0, 1, 0), (1, 0, 0))), False)
        self.assertIs(is_subspace((2, 4), ((1, 0, 0, 0), (0, 0, 1, 0), (0, 1, 0, 0))), False)
        self.assertIs(is_subspace((2, 3), ((1, 0, 0), (1, 0, 0))), False)

    def test_a_leading_entry_other_than_1(self):
        self.assertIs(is_subspace((3, 2), ((2, 0),)), False)
        self.assertIs(is_subspace((3, 2), ((2, 1),)), False)
        self.assertIs(is_subspace((5, 2), ((1, 0), (0, 3))), False)

    def test_an_entry_above_a_leading_place(self):
        self.assertIs(is_subspace((2, 3), ((1, 1, 0), (0, 1, 1))), False)
        self.assertIs(is_subspace((3, 3), ((1, 0, 2), (0, 1, 0), (0, 0, 1))), False)

    def test_an_entry_below_a_leading_place(self):
        # Leading places that ascend strictly leave no such entry: each of these breaks that condition, too.
        self.assertIs(is_subspace((2, 3), ((1, 0, 0), (1, 1, 0))), False)
        self.assertIs(is_subspace((2, 3), ((0, 1, 0), (1, 1, 0))), False)
        self.assertIs(is_subspace((3, 3), ((0, 1, 0), (1, 2, 0))), False)
        self.assertIs(is_subspace((3, 3), ((1, 0, 0), (0, 0, 1), (0, 1, 2))), False)

    def test_values_that_are_no_subspaces(self):
        for setting in SETTINGS:
            for value in not_spaces(setting):
                self.assertIs(is_subspace(setting, value), False)

    def test_a_value_that_is_no_row(self):
        for setting in SETTINGS:
            first = (1,) + (0,) * (setting[1] - 1)
            for wrong in not_rows(setting):
                for value in ((wrong,), (first, wrong), (wrong, first)):
                    self.assertIs(is_subspace(setting, value), False)

    def test_a_list_of_reduced_rows(self):
        for setting in SETTINGS:
            for space in all_spaces(setting):
                self.assertIs(is_subspace(setting, list(space)), False)
                if space:
                    self.assertIs(is_subspace(setting, tuple([list(row) for row in space])), False)

    def test_exceptions(self):
        for setting in SETTINGS:
            for value in ((), all_spaces(setting)[-1], None):
                check_all_exceptions(self, is_subspace, (setting, value), [setting_fault()])


class SpanTest(unittest.TestCase):

    def check_span(self, setting, rows):
        found = span(setting, rows)
        self.assertTrue(are_reduced(setting, found), (setting, rows, found))
        self.assertEqual(made_by_adding(setting, found), made_by_adding(setting, rows), (setting, rows, found))
        self.assertIs(type(found), tuple)
        for row in found:
            self.assertIs(type(row), tuple)
            self.assertEqual([type(entry) for entry in row], [int] * setting[1])

    def test_no_rows(self):
        for setting in SETTINGS:
            self.assertEqual(span(setting, []), ())

    def test_zero_rows(self):
        for setting in SETTINGS:
            zero = (0,) * setting[1]
            for many in range(1, 13):
                self.assertEqual(span(setting, [zero] * many), ())
            for row in all_rows(setting):
                self.assertEqual(span(setting, [zero, row, zero]), span(setting, [row]))

    def test_one_row_and_repeated_rows(self):
        for setting in SETTINGS:
            for row in all_rows(setting):
                self.check_span(setting, [row])
                self.check_span(setting, [row] * 12)

    def test_two_rows(self):
        for setting in SETTINGS:
            rows = all_rows(setting)
            for one in rows[::3]:
                for other in rows[::2]:
                    self.check_span(setting, [one, other])

    def test_up_to_twelve_rows(self):
        for setting in SETTINGS:
            for many in range(13):
                for seed in range(6):
                    self.check_span(setting, some_rows(setting, many, 100 * many + seed))

    def test_many_rows_of_a_small_subspace(self):
        for setting in SETTINGS:
            for at, space in enumerate(all_spaces(setting)):
                rows = made_by_adding(setting, space)
                places = some_rows(setting, 12 - len(space), at)
                chosen = [rows[sum(place) % len(rows)] for place in places]
                self.assertEqual(span(setting, chosen + list(space)), space)
                self.assertEqual(span(setting, list(reversed(space)) + chosen), space)

    def test_reduced_rows_are_their_own_span_and_no_other_ones_have_it(self):
        for setting in SETTINGS:
            spaces = all_spaces(setting)
            for space in spaces:
                self.assertEqual(span(setting, list(space)), space)
            different = {tuple(made_by_adding(setting, space)) for space in spaces}
            self.assertEqual(len(different), len(spaces))

    def test_the_order_of_the_rows_does_not_matter(self):
        for setting in SETTINGS:
            for seed in range(20):
                rows = some_rows(setting, 3, seed)
                for order in ((0, 2, 1), (1, 0, 2), (1, 2, 0), (2, 0, 1), (2, 1, 0)):
                    self.assertEqual(span(setting, [rows[at] for at in order]), span(setting, rows))

    def test_twelve_rows_are_allowed_and_thirteen_are_not(self):
        for setting in SETTINGS:
            for row in all_rows(setting):
                span(setting, [row] * 12)
                check_raises(self, InvalidRows, span, (setting, [row] * 13))

    def test_exceptions(self):
        for setting in SETTINGS:
            faults = [setting_fault(), (1, InvalidRows, not_lists_of_rows(setting))]
            for many in (0, 1, 12):
                check_all_exceptions(self, span, (setting, some_rows(setting, many, 1)), faults)


class MembersTest(unittest.TestCase):

    def test_all_rows_of_each_subspace_ascending(self):
        for setting in SETTINGS:
            for space in all_spaces(setting):
                found = members(setting, space)
                self.assertIs(type(found), list)
                self.assertEqual(found, made_by_adding(setting, space), space)
                self.assertEqual(len(found), setting[0] ** len(space))
                for at in range(len(found) - 1):
                    self.assertLess(found[at], found[at + 1])

    def test_the_least_and_the_greatest_subspace(self):
        for setting in SETTINGS:
            self.assertEqual(members(setting, ()), [(0,) * setting[1]])
            self.assertEqual(members(setting, span(setting, all_rows(setting)[-12:])), all_rows(setting))

    def test_the_span_of_the_members_is_the_subspace(self):
        for setting in SETTINGS:
            for space in all_spaces(setting):
                found = members(setting, space)
                if len(found) <= 12:
                    self.assertEqual(span(setting, found), space)

    def test_exceptions(self):
        for setting in SETTINGS:
            faults = [setting_fault(), (1, InvalidSubspace, not_spaces(setting))]
            for space in ((), all_spaces(setting)[-1]):
                check_all_exceptions(self, members, (setting, space), faults)


class InsideTest(unittest.TestCase):

    def test_has_row_against_the_members(self):
        for setting in SETTINGS:
            for space in all_spaces(setting):
                inside = members(setting, space)
                for row in all_rows(setting):
                    self.assertIs(has_row(setting, space, row), row in inside, (space, row))

    def test_is_inside_against_the_members(self):
        for setting in SETTINGS:
            spaces = [(space, set(members(setting, space))) for space in all_spaces(setting)]
            for one, of_one in spaces:
                for other, of_other in spaces:
                    self.assertIs(is_inside(setting, one, other), of_one <= of_other, (one, other))

    def test_exceptions_of_has_row(self):
        for setting in SETTINGS:
            row = all_rows(setting)[-1]
            faults = [setting_fault(), (1, InvalidSubspace, not_spaces(setting)), (2, InvalidRow, not_rows(setting))]
            for space in ((), all_spaces(setting)[-1]):
                check_all_exceptions(self, has_row, (setting, space, row), faults)

    def test_exceptions_of_is_inside(self):
        for setting in SETTINGS:
            wrong = not_spaces(setting)
            faults = [setting_fault(), (1, InvalidSubspace, wrong), (2, InvalidSubspace, wrong)]
            last = all_spaces(setting)[-1]
            for one, other in (((), last), (last, ()), (last, last), ((), ())):
                check_all_exceptions(self, is_inside, (setting, one, other), faults)

    def test_a_subspace_of_another_setting(self):
        check_raises(self, InvalidSubspace, members, ((2, 2), ((1, 0, 1),)))
        check_raises(self, InvalidSubspace, members, ((2, 2), ((1, 2),)))
        check_raises(self, InvalidSubspace, has_row, ((2, 3), ((1, 0),), (1, 0, 0)))
        check_raises(self, InvalidSubspace, is_inside, ((2, 3), (), ((1, 0, 2),)))
        check_raises(self, InvalidSubspace, is_inside, ((2, 3), ((1, 0, 2),), ()))
        check_raises(self, InvalidSubspace, is_inside, ((2, 3), ((1, 0, 0),), ((1, Hostile(), 0),)))


if __name__ == "__main__":
    unittest.main()
