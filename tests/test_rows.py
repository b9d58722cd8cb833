"""Points 2 and 5, first sentence: settings, rows, sums of multiples and products."""

import unittest

from smallspaces.errors import InvalidNumber, InvalidRow
from smallspaces.rows import combine, is_row, is_setting, product
from tests.helpers import (
    NOT_SETTINGS, SETTINGS, all_rows, check_all_exceptions, not_numbers, not_rows, setting_fault,
)


class SettingTest(unittest.TestCase):

    def test_all_settings(self):
        for setting in SETTINGS:
            self.assertIs(is_setting(setting), True, setting)

    def test_no_other_pair_of_integers_is_a_setting(self):
        for p in range(-30, 31):
            for n in range(-10, 11):
                self.assertIs(is_setting((p, n)), (p, n) in SETTINGS, (p, n))

    def test_values_that_are_no_settings(self):
        for value in NOT_SETTINGS:
            self.assertIs(is_setting(value), False)

    def test_a_list_of_the_numbers_of_a_setting_is_none(self):
        for p, n in SETTINGS:
            for value in ([p, n], (p, n, n), (p,), (n,), ((p, n),), [(p, n)], f"{p}{n}", f"{p} {n}", {p: n}):
                self.assertIs(is_setting(value), False)

    def test_true_and_false_are_no_numbers_of_a_setting(self):
        for truth in (True, False):
            for number in (1, 2, 3, 4, 5, True, False):
                self.assertIs(is_setting((number, truth)), False)
                self.assertIs(is_setting((truth, number)), False)


class RowTest(unittest.TestCase):

    def test_all_rows_of_all_settings(self):
        for setting in SETTINGS:
            self.assertEqual(len(all_rows(setting)), setting[0] ** setting[1])
            for row in all_rows(setting):
                self.assertIs(is_row(setting, row), True)

    def test_values_that_are_no_rows(self):
        for setting in SETTINGS:
            for value in not_rows(setting):
                self.assertIs(is_row(setting, value), False, setting)

    def test_a_row_of_one_setting_is_one_of_another_if_length_and_entries_fit(self):
        for setting in SETTINGS:
            for p, n in SETTINGS:
                for row in all_rows((p, n)):
                    fits = n == setting[1] and max(row) < setting[0]
                    self.assertIs(is_row(setting, row), fits)

    def test_one_entry_out_of_range(self):
        for p, n in SETTINGS:
            for row in all_rows((p, n)):
                for place in range(n):
                    for entry in (-1, p, True, False):
                        value = row[:place] + (entry,) + row[place + 1:]
                        self.assertIs(is_row((p, n), value), False, value)

    def test_too_short_too_long_or_a_list(self):
        for setting in SETTINGS:
            for row in all_rows(setting):
                for value in (row[1:], row[:-1], row + (0,), row + row, list(row), (row,), [row]):
                    self.assertIs(is_row(setting, value), False, value)

    def test_exceptions(self):
        for setting in SETTINGS:
            for row in all_rows(setting)[::7]:
                check_all_exceptions(self, is_row, (setting, row), [setting_fault()])
        check_all_exceptions(self, is_row, ((2, 3), None), [setting_fault()])


class CombineTest(unittest.TestCase):

    def check_combine(self, setting, one, other):
        for factor in range(setting[0]):
            expected = []
            for place in range(setting[1]):
                expected.append((one[place] + factor * other[place]) % setting[0])
            found = combine(setting, one, factor, other)
            self.assertEqual(found, tuple(expected), (setting, one, factor, other))
            self.assertIs(type(found), tuple)
            self.assertEqual([type(entry) for entry in found], [int] * setting[1])

    def test_place_by_place(self):
        for setting in SETTINGS:
            for one in all_rows(setting):
                for other in all_rows(setting):
                    self.check_combine(setting, one, other)

    def test_exceptions(self):
        for setting in SETTINGS:
            rows = all_rows(setting)
            wrong_row, wrong_factor = not_rows(setting), not_numbers(setting[0] - 1)
            faults = [setting_fault(), (1, InvalidRow, wrong_row), (2, InvalidNumber, wrong_factor)]
            faults.append((3, InvalidRow, wrong_row))
            for factor in range(setting[0]):
                check_all_exceptions(self, combine, (setting, rows[-1], factor, rows[1]), faults)


class ProductTest(unittest.TestCase):

    def test_place_by_place(self):
        for setting in SETTINGS:
            for one in all_rows(setting):
                for other in all_rows(setting):
                    expected = 0
                    for place in range(setting[1]):
                        expected = expected + one[place] * other[place]
                    found = product(setting, one, other)
                    self.assertEqual(found, expected % setting[0], (setting, one, other))
                    self.assertIs(type(found), int)

    def test_exceptions(self):
        for setting in SETTINGS:
            rows = all_rows(setting)
            wrong_row = not_rows(setting)
            faults = [setting_fault(), (1, InvalidRow, wrong_row), (2, InvalidRow, wrong_row)]
            check_all_exceptions(self, product, (setting, rows[-1], rows[1]), faults)


if __name__ == "__main__":
    unittest.main()
