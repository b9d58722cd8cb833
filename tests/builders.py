"""What the tests of builders have in common."""

import unittest

from smallspaces.builder import Builder
from smallspaces.errors import NothingToUndo
from tests.helpers import SETTINGS, all_rows, check_raises, made_by_adding, spaces_by_rows


def built(setting, rows):
    """Return a builder into which the rows are put."""
    builder = Builder(setting)
    for row in rows:
        builder.put(row)
    return builder


def first_missing(setting, rows):
    """Return the first row that adding the rows again and again does not make, or None."""
    found = made_by_adding(setting, rows)
    for row in all_rows(setting):
        if row not in found:
            return row
    return None


class BuilderTest(unittest.TestCase):
    """Checks of a builder against the rows that it should have."""

    def setUp(self):
        self.of_rows = {setting: spaces_by_rows(setting) for setting in SETTINGS}

    def space_of(self, setting, rows):
        """Return the span of the rows, found by adding them again and again."""
        return self.of_rows[setting][frozenset(made_by_adding(setting, rows))]

    def check_state(self, builder, setting, rows):
        """Check all that a builder tells of itself against the rows that it should have."""
        space = self.space_of(setting, rows)
        self.assertEqual(builder.rows(), rows)
        self.assertIs(type(builder.rows()), list)
        self.assertEqual(builder.space(), space)
        self.assertIs(type(builder.space()), tuple)
        self.assertEqual(len(builder), len(space))
        lines = [f"{setting[0]} {setting[1]}"] + ["".join(map(str, row)) for row in space]
        self.assertEqual(str(builder), "\n".join(lines))
        self.assertEqual(builder.missing(), first_missing(setting, rows))
        self.assertTrue(builder == built(setting, rows[::-1]))

    def check_fixed(self, builder, setting, rows):
        """Check that no row can be taken out of a builder with these rows."""
        for _ in range(2):
            check_raises(self, NothingToUndo, builder.undo, ())
            self.check_state(builder, setting, rows)
