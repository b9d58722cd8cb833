"""Point 12: what is taken out of builders, and duplicates."""

import unittest

from smallspaces.builder import Builder
from smallspaces.counting import all_subspaces
from smallspaces.errors import InvalidRow, NothingToUndo
from tests.builders import BuilderTest, built
from tests.helpers import SETTINGS, all_rows, check_raises, made_by_adding, numbers, some_rows


class UndoTest(BuilderTest):

    def test_to_the_beginning(self):
        for setting in SETTINGS:
            for seed in range(6):
                rows = some_rows(setting, 8, seed)
                builder = built(setting, rows)
                for many in reversed(range(len(rows))):
                    self.assertEqual(builder.undo(), self.space_of(setting, rows[:many]))
                    self.check_state(builder, setting, rows[:many])
                self.check_fixed(builder, setting, [])
                self.check_equal_to_new(builder, setting)

    def check_equal_to_new(self, builder, setting):
        self.assertTrue(builder == Builder(setting))
        self.assertEqual((len(builder), builder.rows(), builder.space()), (0, [], ()))

    def test_a_new_builder(self):
        for setting in SETTINGS:
            self.check_fixed(Builder(setting), setting, [])

    def test_a_row_that_did_not_let_the_dimension_grow(self):
        builder = built((2, 2), [(1, 1), (1, 1), (0, 0)])
        self.assertEqual([builder.undo(), builder.undo(), builder.undo()], [((1, 1),), ((1, 1),), ()])
        self.check_fixed(builder, (2, 2), [])

    def test_a_row_that_changed_the_reduced_rows_before_it(self):
        builder = built((3, 3), [(1, 1, 1), (0, 1, 2)])
        self.assertEqual(builder.space(), ((1, 0, 2), (0, 1, 2)))
        self.assertEqual(builder.undo(), ((1, 1, 1),))

    def test_rows_put_in_again_behind_it(self):
        for setting in SETTINGS:
            first, second = some_rows(setting, 6, 8), some_rows(setting, 6, 9)
            builder = built(setting, first)
            for many in range(6):
                builder.undo()
                builder.put(second[many])
                self.check_state(builder, setting, first[:5] + [second[many]])
            check_raises(self, InvalidRow, builder.put, (None,))
            for many in reversed(range(6)):
                self.assertEqual(builder.undo(), self.space_of(setting, first[:many]))
            self.check_fixed(builder, setting, [])
            builder.put(second[0])
            self.check_state(builder, setting, second[:1])

    def test_many_rows(self):
        for setting in ((2, 4), (3, 4), (5, 2)):
            rows = some_rows(setting, 100, 6)
            builder = built(setting, rows)
            for many in reversed(range(100)):
                self.assertEqual(builder.undo(), self.space_of(setting, rows[:many]))
                self.assertEqual(builder.rows(), rows[:many])
            self.check_fixed(builder, setting, [])


class DuplicateTest(BuilderTest):

    def test_the_same_setting_and_rows(self):
        for setting in SETTINGS:
            for many in (0, 1, 2, 7):
                rows = some_rows(setting, many, 10)
                builder = built(setting, rows)
                duplicate = builder.duplicate()
                self.assertIs(type(duplicate), Builder)
                self.assertIsNot(duplicate, builder)
                self.check_state(duplicate, setting, rows)
                self.assertTrue(duplicate == builder)
                self.assertTrue(builder == duplicate)

    def test_none_of_its_rows_can_be_taken_out(self):
        for setting in SETTINGS:
            for many in (0, 1, 2, 7):
                rows = some_rows(setting, many, 11)
                self.check_fixed(built(setting, rows).duplicate(), setting, rows)

    def test_rows_that_are_put_into_it_can_be_taken_out(self):
        for setting in SETTINGS:
            for many in (0, 1, 3):
                rows, later = some_rows(setting, many, 12), some_rows(setting, 4, 13)
                duplicate = built(setting, rows).duplicate()
                for row in later:
                    duplicate.put(row)
                self.check_state(duplicate, setting, rows + later)
                for left in reversed(range(4)):
                    self.assertEqual(duplicate.undo(), self.space_of(setting, rows + later[:left]))
                    self.check_state(duplicate, setting, rows + later[:left])
                self.check_fixed(duplicate, setting, rows)
                duplicate.put(later[0])
                self.check_state(duplicate, setting, rows + later[:1])

    def test_what_happens_to_a_duplicate_leaves_the_builder_alone(self):
        for setting in SETTINGS:
            rows, later = some_rows(setting, 3, 14), some_rows(setting, 3, 15)
            builder = built(setting, rows)
            duplicate = builder.duplicate()
            for row in later:
                duplicate.put(row)
                self.check_state(builder, setting, rows)
            duplicate.undo()
            self.check_state(builder, setting, rows)
            for many in reversed(range(3)):
                self.assertEqual(builder.undo(), self.space_of(setting, rows[:many]))
            self.check_fixed(builder, setting, [])
            self.check_state(duplicate, setting, rows + later[:2])

    def test_what_happens_to_the_builder_leaves_a_duplicate_alone(self):
        for setting in SETTINGS:
            rows, later = some_rows(setting, 3, 16), some_rows(setting, 3, 17)
            builder = built(setting, rows)
            duplicate = builder.duplicate()
            for row in later:
                builder.put(row)
            self.check_fixed(duplicate, setting, rows)
            for _ in range(6):
                builder.undo()
                self.check_state(duplicate, setting, rows)
            self.check_fixed(builder, setting, [])
            self.check_fixed(duplicate, setting, rows)

    def test_a_duplicate_of_a_duplicate(self):
        for setting in SETTINGS:
            rows = some_rows(setting, 4, 18)
            first = built(setting, rows[:2]).duplicate()
            first.put(rows[2])
            second = first.duplicate()
            self.check_fixed(second, setting, rows[:3])
            second.put(rows[3])
            self.assertEqual(first.undo(), self.space_of(setting, rows[:2]))
            self.check_fixed(first, setting, rows[:2])
            self.check_state(second, setting, rows)
            self.assertEqual(second.undo(), self.space_of(setting, rows[:3]))
            self.check_fixed(second, setting, rows[:3])

    def test_a_duplicate_after_undo(self):
        for setting in SETTINGS:
            rows = some_rows(setting, 4, 19)
            builder = built(setting, rows)
            builder.undo()
            duplicate = builder.duplicate()
            self.check_fixed(duplicate, setting, rows[:3])
            builder.undo()
            self.check_state(builder, setting, rows[:2])
            self.check_state(duplicate, setting, rows[:3])

    def test_two_duplicates_of_one_builder(self):
        for setting in SETTINGS:
            rows = some_rows(setting, 3, 20)
            builder = built(setting, rows[:1])
            one, other = builder.duplicate(), builder.duplicate()
            one.put(rows[1])
            other.put(rows[2])
            self.check_state(one, setting, [rows[0], rows[1]])
            self.check_state(other, setting, [rows[0], rows[2]])
            self.check_state(builder, setting, rows[:1])


class StepsTest(BuilderTest):
    """Builders that are asked for all sorts of things in no apparent order, beside lists of the rows that they have."""

    def step(self, states, setting, number):
        """Do one thing with one of the builders: states has triples of a builder, its rows and how many are fixed."""
        rows = all_rows(setting)
        builder, told, fixed = states[number // 100 % len(states)]
        action = number % 10
        if action < 5:
            row = rows[number // 10 % len(rows)]
            grows = row not in made_by_adding(setting, told)
            self.assertIs(builder.put(row), grows)
            told.append(row)
        elif action < 8:
            if len(told) > fixed:
                told.pop()
                self.assertEqual(builder.undo(), self.space_of(setting, told))
            else:
                check_raises(self, NothingToUndo, builder.undo, ())
        elif action < 9:
            check_raises(self, InvalidRow, builder.put, (rows[0] + (0,),))
        elif len(states) < 4:
            states.append((builder.duplicate(), list(told), len(told)))

    def test_steps(self):
        for setting in SETTINGS:
            states = [(Builder(setting), [], 0)]
            for number in numbers(150, 21):
                self.step(states, setting, number)
                for builder, told, _ in states:
                    self.assertEqual(builder.rows(), told)
                    self.assertEqual(builder.space(), self.space_of(setting, told))
            for builder, told, _ in states:
                self.check_state(builder, setting, told)

    def test_a_builder_knows_nothing_of_other_builders(self):
        spaces = [(setting, space) for setting in SETTINGS for space in all_subspaces(setting, 1)]
        builders = [(setting, space, built(setting, space)) for setting, space in spaces]
        for setting, space, builder in builders:
            self.assertEqual((builder.space(), builder.rows()), (space, list(space)))
            self.assertEqual(builder.undo(), ())


if __name__ == "__main__":
    unittest.main()
