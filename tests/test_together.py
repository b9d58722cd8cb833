"""What the document promises over the whole program: answers found by hand, agreements, the order of exceptions."""

import unittest

from smallspaces.builder import Builder
from smallspaces.counting import all_subspaces, between, count_flags, count_subspaces
from smallspaces.distances import distance, is_road, road
from smallspaces.equations import count_solutions, refutation, solve
from smallspaces.errors import (
    InvalidNumber, InvalidRow, InvalidRows, InvalidSetting, InvalidSubspace, InvalidSystem, NoSolution, NotInside,
)
from smallspaces.formatting import format_space, parse_space
from smallspaces.meeting import complements, meet, opposite, sum_of
from smallspaces.rows import combine, is_row, product
from smallspaces.spans import has_row, is_inside, is_subspace, members, span
from tests.helpers import (
    NOT_SETTINGS, SETTINGS, Hostile, all_rows, all_spaces, check_raises, least_and_greatest, not_numbers, not_rows,
    not_spaces, some_pairs,
)

# The functions with a subspace, or two of them, behind the setting.
WITH_ONE_SPACE = (members, has_row, opposite, complements, format_space)
WITH_TWO_SPACES = (is_inside, sum_of, meet, between, distance, road, is_road)

# The functions with a setting and so many other arguments.
WITH_SETTING = {
    is_row: 1, combine: 3, product: 2, is_subspace: 1, span: 1, members: 1, has_row: 2, is_inside: 2, sum_of: 2,
    meet: 2, opposite: 1, complements: 1, count_subspaces: 1, all_subspaces: 1, between: 3, count_flags: 0, distance: 2,
    road: 2, is_road: 3, solve: 1, count_solutions: 1, refutation: 1, format_space: 1, Builder: 0,
}


class ByHandTest(unittest.TestCase):

    def test_no_row(self):
        for setting in SETTINGS:
            zero, units = (0,) * setting[1], least_and_greatest(setting)[1]
            self.assertEqual(span(setting, []), ())
            self.assertEqual(span(setting, [zero]), ())
            self.assertEqual(members(setting, ()), [zero])
            self.assertEqual(opposite(setting, ()), units)
            self.assertEqual(complements(setting, ()), [units])
            self.assertEqual(all_subspaces(setting, 0), [()])
            self.assertEqual(distance(setting, (), ()), 0)
            self.assertEqual(road(setting, (), ()), [()])
            self.assertEqual(between(setting, (), (), 0), [()])
            self.assertEqual(solve(setting, ()), (zero, units))
            self.assertEqual(str(Builder(setting)), f"{setting[0]} {setting[1]}")

    def test_all_rows(self):
        for setting in SETTINGS:
            p, n = setting
            units = least_and_greatest(setting)[1]
            self.assertEqual(span(setting, list(units)[::-1]), units)
            self.assertEqual(members(setting, units), all_rows(setting))
            self.assertEqual(opposite(setting, units), ())
            self.assertEqual(complements(setting, units), [()])
            self.assertEqual(all_subspaces(setting, n), [units])
            self.assertEqual(distance(setting, (), units), n)
            self.assertEqual(len(road(setting, units, ())), n + 1)
            self.assertEqual(between(setting, units, units, 0), [units])
            self.assertEqual(solve(setting, tuple((unit, 0) for unit in units)), ((0,) * n, ()))
            self.assertEqual(parse_space(format_space(setting, units)), (setting, units))

    def test_lines_in_the_plane(self):
        lines = {
            2: [((0, 1),), ((1, 0),), ((1, 1),)],
            3: [((0, 1),), ((1, 0),), ((1, 1),), ((1, 2),)],
            5: [((0, 1),), ((1, 0),), ((1, 1),), ((1, 2),), ((1, 3),), ((1, 4),)],
        }
        plane = ((1, 0), (0, 1))
        for p, expected in lines.items():
            setting = (p, 2)
            self.assertEqual(all_subspaces(setting, 1), expected)
            self.assertEqual(between(setting, (), plane, 1), expected)
            self.assertEqual(count_subspaces(setting, 1), p + 1)
            self.assertEqual(count_flags(setting), p + 1)
            for one in expected:
                self.assertEqual(complements(setting, one), [line for line in expected if line != one])
                for other in expected:
                    self.assertEqual(sum_of(setting, one, other), one if one == other else plane)
                    self.assertEqual(meet(setting, one, other), one if one == other else ())
                    self.assertEqual(distance(setting, one, other), 0 if one == other else 2)
        self.assertEqual(members((3, 2), ((1, 2),)), [(0, 0), (1, 2), (2, 1)])
        self.assertEqual(members((5, 2), ((1, 3),)), [(0, 0), (1, 3), (2, 1), (3, 4), (4, 2)])
        self.assertEqual(span((5, 2), [(2, 1), (4, 2)]), ((1, 3),))

    def test_a_subspace_that_is_its_own_opposite(self):
        own = ((1, 0, 0, 1), (0, 1, 1, 0))
        self.assertEqual(opposite((2, 4), own), own)
        self.assertEqual(sum_of((2, 4), own, opposite((2, 4), own)), own)
        self.assertEqual(distance((2, 4), own, opposite((2, 4), own)), 0)
        self.assertNotIn(own, complements((2, 4), own))
        self.assertEqual(opposite((2, 2), ((1, 1),)), ((1, 1),))
        self.assertEqual(opposite((5, 2), ((1, 2),)), ((1, 2),))
        self.assertEqual(opposite((3, 2), ((1, 1),)), ((1, 2),))

    def test_numbers(self):
        self.assertEqual([count_subspaces((2, 4), k) for k in range(5)], [1, 15, 35, 15, 1])
        self.assertEqual([count_subspaces((3, 4), k) for k in range(5)], [1, 40, 130, 40, 1])
        self.assertEqual([count_flags((2, n)) for n in (1, 2, 3, 4)], [1, 3, 21, 315])
        self.assertEqual([count_flags((3, n)) for n in (1, 2, 3, 4)], [1, 4, 52, 2080])
        self.assertEqual(len(complements((3, 4), ((1, 0, 0, 0), (0, 1, 0, 0)))), 81)

    def test_equations(self):
        # Two equations in three unknown entries.
        system = (((1, 1, 1), 0), ((1, 2, 0), 1))
        self.assertEqual(solve((3, 3), system), ((0, 2, 1), ((1, 1, 1),)))
        self.assertEqual(count_solutions((3, 3), system), 3)
        self.assertIsNone(refutation((3, 3), system))
        # The third is the sum of both, but for the right side.
        wrong = system + (((2, 0, 1), 0),)
        check_raises(self, NoSolution, solve, ((3, 3), wrong))
        self.assertEqual(count_solutions((3, 3), wrong), 0)
        self.assertIn(refutation((3, 3), wrong), [(1, 1, 2), (2, 2, 1)])
        self.assertEqual(solve((3, 3), system + (((2, 0, 1), 1),)), solve((3, 3), system))
        self.assertEqual(solve((5, 1), (((2,), 1), ((4,), 2))), ((3,), ()))


class AgreementTest(unittest.TestCase):

    def build(self, text):
        """Return a builder into which the rows of a text are put."""
        setting, space = parse_space(text)
        builder = Builder(setting)
        for row in space:
            self.assertIs(builder.put(row), True)
        self.assertEqual((str(builder), builder.space(), len(builder)), (text, space, len(space)))
        return builder

    def chosen_pairs(self):
        for setting in SETTINGS:
            for one, other in some_pairs(setting, 300):
                yield setting, one, other

    def test_builders_make_the_subspaces_of_texts_again(self):
        for setting, one, other in self.chosen_pairs():
            left, right = format_space(setting, one), format_space(setting, other)
            self.assertEqual(parse_space(left), (setting, one))
            self.assertIs(self.build(left) == self.build(right), one == other)

    def test_the_sum_grows_from_the_one_by_the_rows_of_the_other(self):
        for setting, one, other in self.chosen_pairs():
            builder = self.build(format_space(setting, one))
            grown = [builder.put(row) for row in other]
            found = sum_of(setting, one, other)
            self.assertEqual(builder.space(), found)
            self.assertEqual(sum(grown), len(found) - len(one))
            self.assertEqual(sum(grown), len(other) - len(meet(setting, one, other)))
            self.assertTrue(builder == self.build(format_space(setting, found)))
            for _ in other:
                builder.undo()
            self.assertEqual(builder.space(), one)

    def test_sums_meets_distances_and_roads(self):
        for setting, one, other in self.chosen_pairs():
            both, common = sum_of(setting, one, other), meet(setting, one, other)
            steps = road(setting, one, other)
            self.assertEqual(distance(setting, one, other), len(both) - len(common))
            self.assertEqual(len(steps), distance(setting, one, other) + 1)
            self.assertIs(is_road(setting, one, other, steps), True)
            self.assertEqual(span(setting, list(one + other)), both)
            inside = [row for row in members(setting, one) if has_row(setting, other, row)]
            self.assertEqual(members(setting, common), inside)
            self.assertIs(is_inside(setting, one, other), both == other)
            self.assertEqual(steps, [parse_space(format_space(setting, space))[1] for space in steps])

    def test_equations_whose_solutions_are_the_opposite(self):
        for setting in SETTINGS:
            for space in all_spaces(setting):
                system = tuple((row, 0) for row in space)
                self.assertEqual(solve(setting, system), ((0,) * setting[1], opposite(setting, space)))
                self.assertEqual(count_solutions(setting, system), len(members(setting, opposite(setting, space))))

    def test_a_builder_misses_the_first_row_that_its_span_does_not_have(self):
        for setting in SETTINGS:
            for space in all_spaces(setting):
                missing = [row for row in all_rows(setting) if not has_row(setting, space, row)]
                builder = self.build(format_space(setting, space))
                self.assertEqual(builder.missing(), (missing + [None])[0])


class OrderOfExceptionsTest(unittest.TestCase):

    def test_invalid_settings_come_first(self):
        for function, many in WITH_SETTING.items():
            for wrong in NOT_SETTINGS:
                for rest in (Hostile(), None, (), [], 0, True, ((1, 0),), (2, 3)):
                    check_raises(self, InvalidSetting, function, [wrong] + [rest] * many)

    def test_invalid_subspaces_come_next(self):
        for function in WITH_ONE_SPACE + WITH_TWO_SPACES:
            many = WITH_SETTING[function] - 1
            for setting in SETTINGS:
                for wrong in not_spaces(setting):
                    for rest in (Hostile(), None, (), -1):
                        check_raises(self, InvalidSubspace, function, [setting, wrong] + [rest] * many)

    def test_the_second_subspace_comes_next(self):
        for function in WITH_TWO_SPACES:
            many = WITH_SETTING[function] - 2
            for setting in SETTINGS:
                for wrong in not_spaces(setting):
                    for one in least_and_greatest(setting):
                        for rest in (Hostile(), -1, []):
                            check_raises(self, InvalidSubspace, function, [setting, one, wrong] + [rest] * many)

    def test_rows_and_factors(self):
        for setting in SETTINGS:
            good, wrong_factors = (1,) * setting[1], not_numbers(setting[0] - 1)
            for wrong in not_rows(setting):
                check_raises(self, InvalidRow, combine, (setting, wrong, None, None))
                check_raises(self, InvalidNumber, combine, (setting, good, wrong_factors[-1], wrong))
                check_raises(self, InvalidRow, combine, (setting, good, 1, wrong))
                check_raises(self, InvalidRow, product, (setting, wrong, Hostile()))
                check_raises(self, InvalidRow, product, (setting, good, wrong))
                check_raises(self, InvalidRow, has_row, (setting, (), wrong))
                check_raises(self, InvalidRows, span, (setting, [good, wrong]))
                check_raises(self, InvalidRow, Builder(setting).put, (wrong,))
                for function in (solve, count_solutions, refutation):
                    check_raises(self, InvalidSystem, function, (setting, ((wrong, 0), (good, 0), (good, 1))))
            for wrong in wrong_factors:
                check_raises(self, InvalidNumber, combine, (setting, good, wrong, good))
                check_raises(self, InvalidRow, combine, (setting, None, wrong, good))
                for function in (solve, count_solutions, refutation):
                    check_raises(self, InvalidSystem, function, (setting, ((good, wrong), (good, 0), (good, 1))))

    def test_one_that_is_not_inside_comes_before_the_number(self):
        for setting in SETTINGS:
            least, greatest = least_and_greatest(setting)
            for wrong in not_numbers(0):
                check_raises(self, NotInside, between, (setting, greatest, least, wrong))
                check_raises(self, InvalidNumber, between, (setting, least, least, wrong))


if __name__ == "__main__":
    unittest.main()
