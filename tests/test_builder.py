"""Point 12: builders, what is put into them and what they tell."""

import inspect
import unittest

from smallspaces.builder import Builder
from smallspaces.errors import InvalidRow, InvalidSetting
from smallspaces.formatting import format_space
from tests.builders import BuilderTest, built, first_missing
from tests.helpers import (
    NOT_SETTINGS, OBJECTS, SETTINGS, Hostile, all_rows, all_spaces, check_raises, least_and_greatest, made_by_adding,
    not_rows, some_rows,
)


class Equal:
    """An object that takes itself for equal to all others."""

    def __eq__(self, other):
        return True


class InterfaceTest(unittest.TestCase):

    def test_the_class_itself_defines_each_method(self):
        self.assertEqual(Builder.__module__, "smallspaces.builder")
        methods = {
            "__init__": ["self", "setting"], "__len__": ["self"], "__str__": ["self"], "__eq__": ["self", "other"],
            "put": ["self", "row"], "space": ["self"], "rows": ["self"], "missing": ["self"], "undo": ["self"],
            "duplicate": ["self"],
        }
        for name, parameters in methods.items():
            self.assertTrue(inspect.isfunction(vars(Builder)[name]), name)
            self.assertEqual(list(inspect.signature(vars(Builder)[name]).parameters), parameters)

    def test_arguments_may_be_given_by_name(self):
        builder = Builder(setting=(2, 2))
        self.assertIs(builder.put(row=(1, 1)), True)
        self.assertEqual(builder.rows(), [(1, 1)])

    def test_the_examples_of_the_interface(self):
        b = Builder((2, 2))
        self.assertIs(b.put((1, 1)), True)
        self.assertEqual(b.space(), ((1, 1),))
        self.assertEqual(b.rows(), [(1, 1)])
        self.assertEqual(b.missing(), (0, 1))
        self.assertEqual(b.undo(), ())


class PutTest(BuilderTest):

    def test_a_new_builder(self):
        for setting in SETTINGS:
            self.check_state(Builder(setting), setting, [])
            self.assertEqual(len(Builder(setting)), 0)

    def test_rows_in_no_apparent_order(self):
        for setting in SETTINGS:
            for seed in range(12):
                rows = some_rows(setting, 9, seed)
                builder = Builder(setting)
                for many, row in enumerate(rows):
                    grows = len(self.space_of(setting, rows[:many + 1])) > len(self.space_of(setting, rows[:many]))
                    self.assertIs(builder.put(row), grows, (setting, rows[:many], row))
                    self.check_state(builder, setting, rows[:many + 1])

    def test_each_row_behind_rows_of_each_subspace(self):
        for setting in ((2, 1), (2, 2), (2, 3), (3, 1), (3, 2), (5, 1), (5, 2)):
            for space in all_spaces(setting):
                for row in all_rows(setting):
                    builder = built(setting, space)
                    self.assertIs(builder.put(row), row not in made_by_adding(setting, space))
                    self.check_state(builder, setting, list(space) + [row])

    def test_the_zero_row(self):
        for setting in SETTINGS:
            zero = (0,) * setting[1]
            builder = Builder(setting)
            self.assertIs(builder.put(zero), False)
            self.assertIs(builder.put(zero), False)
            self.check_state(builder, setting, [zero, zero])
            self.assertEqual(builder.undo(), ())
            self.check_state(builder, setting, [zero])

    def test_a_row_twice_and_its_multiples(self):
        builder = Builder((5, 2))
        self.assertEqual([builder.put((times, 2 * times % 5)) for times in (1, 1, 2, 3, 4, 0)], [True] + [False] * 5)
        self.assertEqual(builder.space(), ((1, 2),))
        self.assertEqual(builder.rows(), [(1, 2), (1, 2), (2, 4), (3, 1), (4, 3), (0, 0)])

    def test_more_rows_than_span_takes(self):
        for setting in SETTINGS:
            rows = some_rows(setting, 300, 5)
            builder = built(setting, rows)
            self.assertEqual(builder.rows(), rows)
            self.check_state(builder, setting, rows)

    def test_values_that_are_no_rows(self):
        for setting in SETTINGS:
            rows = some_rows(setting, 3, 1)
            builder, empty = built(setting, rows), Builder(setting)
            for wrong in not_rows(setting):
                check_raises(self, InvalidRow, builder.put, (wrong,))
                check_raises(self, InvalidRow, empty.put, (wrong,))
            self.check_state(builder, setting, rows)
            self.check_state(empty, setting, [])
            self.check_fixed(empty, setting, [])

    def test_a_wrong_row_changes_nothing(self):
        for setting in SETTINGS:
            p, n = setting
            builder = built(setting, [(1,) * n])
            for wrong in (None, [1] * n, (1,) * (n + 1), (p,) * n, (True,) * n):
                check_raises(self, InvalidRow, builder.put, (wrong,))
                self.check_state(builder, setting, [(1,) * n])
            self.assertEqual(builder.undo(), ())
            self.check_fixed(builder, setting, [])

    def test_values_that_are_no_settings(self):
        for wrong in NOT_SETTINGS:
            check_raises(self, InvalidSetting, Builder, (wrong,))


class ToldTest(BuilderTest):

    def test_missing(self):
        for setting in SETTINGS:
            for space in all_spaces(setting):
                found = built(setting, space).missing()
                self.assertEqual(found, first_missing(setting, space), (setting, space))
                if found is not None:
                    self.assertEqual([type(found)] + [type(entry) for entry in found], [tuple] + [int] * setting[1])

    def test_missing_by_hand(self):
        for setting, rows, expected in [
            ((2, 1), [], (1,)), ((2, 1), [(1,)], None), ((5, 1), [(3,)], None), ((2, 2), [(0, 1)], (1, 0)),
            ((3, 2), [(1, 2)], (0, 1)), ((3, 3), [(0, 0, 2), (1, 0, 0)], (0, 1, 0)), ((2, 4), [], (0, 0, 0, 1)),
            ((2, 3), [(0, 1, 1), (0, 1, 0)], (1, 0, 0)), ((2, 2), [(1, 1), (1, 0)], None),
        ]:
            self.assertEqual(built(setting, rows).missing(), expected)

    def test_missing_rows_one_after_the_other_make_all_rows(self):
        for setting in SETTINGS:
            builder = Builder(setting)
            while builder.missing() is not None:
                self.assertIs(builder.put(builder.missing()), True)
            self.assertEqual(builder.space(), least_and_greatest(setting)[1])
            self.assertEqual(len(builder.rows()), setting[1])

    def test_the_text_is_that_of_the_span(self):
        for setting in SETTINGS:
            for space in all_spaces(setting):
                found = str(built(setting, space[::-1]))
                self.assertEqual(found, format_space(setting, space))
                self.assertIs(type(found), str)
        self.assertEqual(str(built((2, 3), [(1, 1, 0), (0, 1, 1)])), "2 3\n101\n011")
        self.assertEqual(str(Builder((5, 2))), "5 2")

    def test_the_length_is_that_of_the_span(self):
        for setting in SETTINGS:
            for space in all_spaces(setting):
                self.assertEqual(len(built(setting, space + space)), len(space))

    def test_lists_that_are_told_are_not_shared(self):
        for setting in SETTINGS:
            rows = some_rows(setting, 4, 2)
            builder = built(setting, rows)
            for told in (builder.rows(), builder.duplicate().rows()):
                told.append((1,) * setting[1])
                told[0] = None
                self.check_state(builder, setting, rows)
                told.clear()
                self.check_state(builder, setting, rows)
            kept = builder.rows()
            self.assertIsNot(builder.rows(), kept)
            builder.put((1,) * setting[1])
            builder.undo()
            builder.undo()
            self.assertEqual(kept, rows)

    def test_a_changed_list_changes_no_answer_of_put_and_undo(self):
        builder = built((2, 3), [(1, 0, 0), (0, 1, 0)])
        builder.rows().pop()
        builder.rows().append((0, 0, 1))
        self.assertEqual(builder.undo(), ((1, 0, 0),))
        self.assertEqual(builder.rows(), [(1, 0, 0)])
        self.assertIs(builder.put((0, 0, 1)), True)
        self.assertEqual(builder.space(), ((1, 0, 0), (0, 0, 1)))

    def test_asking_changes_nothing(self):
        for setting in SETTINGS:
            rows = some_rows(setting, 5, 3)
            builder = built(setting, rows)
            for _ in range(3):
                self.check_state(builder, setting, rows)
                builder.duplicate()
            self.assertEqual(builder.undo(), self.space_of(setting, rows[:-1]))


class EqualityTest(BuilderTest):

    def check_equal(self, one, other, expected):
        self.assertIs(one == other, expected)
        self.assertIs(other == one, expected)
        self.assertIs(one != other, not expected)
        self.assertIs(other != one, not expected)

    def test_all_pairs_of_subspaces(self):
        for setting in ((2, 1), (2, 2), (2, 3), (3, 1), (3, 2), (5, 1), (5, 2)):
            spaces = all_spaces(setting)
            for one in spaces:
                for other in spaces:
                    self.check_equal(built(setting, one), built(setting, other[::-1] * 2), one == other)

    def test_other_rows_with_the_same_span(self):
        for setting in SETTINGS:
            for space in all_spaces(setting)[::9]:
                rows = made_by_adding(setting, space)
                self.check_equal(built(setting, space), built(setting, rows), True)
                self.check_equal(built(setting, rows[::-1]), built(setting, rows), True)
                if len(rows) > 2:
                    self.check_equal(built(setting, rows[:-1]), built(setting, space), True)

    def test_equal_spans_of_other_settings(self):
        for one in SETTINGS:
            for other in SETTINGS:
                self.check_equal(Builder(one), Builder(other), one == other)
                unit_one, unit_other = (1,) + (0,) * (one[1] - 1), (1,) + (0,) * (other[1] - 1)
                self.check_equal(built(one, [unit_one]), built(other, [unit_other]), one == other)
        self.check_equal(built((2, 2), [(1, 1)]), built((3, 2), [(1, 1)]), False)

    def test_the_same_builder(self):
        for setting in SETTINGS:
            builder = built(setting, some_rows(setting, 3, 4))
            self.check_equal(builder, builder, True)

    def test_equality_follows_put_and_undo(self):
        one, other = Builder((2, 2)), Builder((2, 2))
        one.put((1, 1))
        self.check_equal(one, other, False)
        other.put((1, 0))
        self.check_equal(one, other, False)
        other.put((0, 1))
        self.check_equal(one, other, False)
        one.put((0, 1))
        self.check_equal(one, other, True)
        other.undo()
        self.check_equal(one, other, False)

    def test_other_objects(self):
        for setting in SETTINGS:
            for rows in ([], [(1,) * setting[1]]):
                builder = built(setting, rows)
                others = [value for value in OBJECTS if not isinstance(value, Hostile)]
                others = others + [setting, builder.space(), builder.rows(), str(builder), len(builder), Builder]
                others = others + [(setting, builder.space()), [builder], (builder,), {setting: builder.space()}]
                for other in others:
                    self.check_equal(builder, other, False)
                for other in (Hostile(), Equal()):
                    self.assertIs(builder == other, False)
                    self.assertIs(builder != other, True)


if __name__ == "__main__":
    unittest.main()
