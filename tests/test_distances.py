"""Point 9: distances and roads."""

import unittest
from fractions import Fraction
from itertools import product as tuples_of

from smallspaces.distances import distance, is_road, road
from smallspaces.errors import InvalidSubspace
from smallspaces.meeting import meet, sum_of
from tests.helpers import (
    OBJECTS, SETTINGS, Hostile, all_spaces, check_all_exceptions, check_raises, least_and_greatest, not_spaces,
    numbers, rows_of_spaces, setting_fault, some_pairs,
)


def neighbours_of_spaces(setting):
    """Return a dict from each subspace to the list of its neighbours, found by all rows."""
    of_space = rows_of_spaces(setting)
    found = {space: [] for space in of_space}
    for one, rows in of_space.items():
        for other, other_rows in of_space.items():
            if len(other) == len(one) + 1 and rows <= other_rows:
                found[one].append(other)
                found[other].append(one)
    return found


def steps_from(start, neighbours):
    """Return a dict from each subspace to the least number of steps from start to it."""
    steps = {start: 0}
    fresh = [start]
    while fresh:
        reached = []
        for space in fresh:
            for other in neighbours[space]:
                if other not in steps:
                    steps[other] = steps[space] + 1
                    reached.append(other)
        fresh = reached
    return steps


def is_such_a_list(neighbours, one, other, spaces):
    """Return whether a list of subspaces is a road from one to other."""
    if not spaces or spaces[0] != one or spaces[-1] != other:
        return False
    return all(spaces[at + 1] in neighbours[spaces[at]] for at in range(len(spaces) - 1))


def walk(neighbours, start, many, seed):
    """Return a list of many steps between neighbours, with no aim."""
    found = [start]
    for number in numbers(many, seed):
        choices = neighbours[found[-1]]
        found.append(choices[number % len(choices)])
    return found


def not_lists(spaces):
    """Return values that are no lists, made of a list of subspaces."""
    found = [value for value in OBJECTS if type(value) is not list]
    found = found + [tuple(spaces), {space: None for space in spaces}, set(spaces), frozenset(spaces), iter(spaces)]
    found = found + [dict(enumerate(spaces)), str(spaces), (spaces,), (space for space in spaces), spaces[0], Hostile()]
    return found + [range(len(spaces)), reversed(spaces), Fraction(len(spaces)), {"spaces": spaces}, len(spaces)]


class DistanceTest(unittest.TestCase):

    def test_the_least_number_of_steps(self):
        for setting in SETTINGS:
            neighbours = neighbours_of_spaces(setting)
            spaces = all_spaces(setting)
            for one in spaces[::len(spaces) // 70 + 1] + spaces[-1:]:
                steps = steps_from(one, neighbours)
                self.assertEqual(len(steps), len(spaces))
                for other in spaces:
                    found = distance(setting, one, other)
                    self.assertEqual(found, steps[other], (setting, one, other))
                    self.assertIs(type(found), int)

    def test_the_dimension_of_the_sum_less_that_of_the_meet(self):
        for setting in SETTINGS:
            for one, other in some_pairs(setting):
                expected = len(sum_of(setting, one, other)) - len(meet(setting, one, other))
                self.assertEqual(distance(setting, one, other), expected, (setting, one, other))

    def test_one_and_other_equal(self):
        for setting in SETTINGS:
            for space in all_spaces(setting):
                self.assertEqual(distance(setting, space, space), 0)

    def test_the_same_there_and_back(self):
        for setting in SETTINGS:
            for one, other in some_pairs(setting):
                self.assertEqual(distance(setting, one, other), distance(setting, other, one))

    def test_from_the_least_to_the_greatest(self):
        for setting in SETTINGS:
            least, greatest = least_and_greatest(setting)
            self.assertEqual(distance(setting, least, greatest), setting[1])


class RoadTest(unittest.TestCase):

    def check_road(self, setting, neighbours, one, other, steps):
        found = road(setting, one, other)
        self.assertIs(type(found), list)
        self.assertEqual((found[0], found[-1]), (one, other))
        self.assertEqual(len(found) - 1, steps, (setting, one, other, found))
        for at in range(len(found) - 1):
            self.assertIn(found[at + 1], neighbours[found[at]], (setting, one, other, found))
        for space in found:
            self.assertIs(type(space), tuple)
            self.assertEqual([type(row) for row in space], [tuple] * len(space))

    def test_from_one_to_other_by_neighbours_in_the_least_number_of_steps(self):
        for setting in SETTINGS:
            neighbours = neighbours_of_spaces(setting)
            spaces = all_spaces(setting)
            for one in spaces[::len(spaces) // 70 + 1] + spaces[-1:]:
                steps = steps_from(one, neighbours)
                for other in spaces:
                    self.check_road(setting, neighbours, one, other, steps[other])

    def test_as_many_steps_as_the_distance(self):
        for setting in SETTINGS:
            for one, other in some_pairs(setting):
                self.assertEqual(len(road(setting, one, other)) - 1, distance(setting, one, other))

    def test_one_and_other_equal(self):
        for setting in SETTINGS:
            for space in all_spaces(setting):
                self.assertEqual(road(setting, space, space), [space])


class IsRoadTest(unittest.TestCase):

    def test_all_short_lists_of_subspaces(self):
        for setting in ((2, 1), (3, 1), (5, 1), (2, 2), (3, 2)):
            neighbours = neighbours_of_spaces(setting)
            spaces = all_spaces(setting)
            for many in range(5):
                for chosen in tuples_of(spaces, repeat=many):
                    for one, other in [((), ())] + [(space, chosen[-1]) for space in chosen[:2]]:
                        expected = is_such_a_list(neighbours, one, other, chosen)
                        self.assertIs(is_road(setting, one, other, list(chosen)), expected, (one, other, chosen))

    def test_roads(self):
        for setting in SETTINGS:
            for one, other in some_pairs(setting):
                self.assertIs(is_road(setting, one, other, road(setting, one, other)), True, (setting, one, other))

    def test_longer_roads(self):
        for setting in SETTINGS:
            neighbours = neighbours_of_spaces(setting)
            for at, space in enumerate(all_spaces(setting)):
                for many in (1, 2, 3, 10, 31):
                    found = walk(neighbours, space, many, 100 * at + many)
                    self.assertIs(is_road(setting, space, found[-1], found), True)
            found = walk(neighbours, (), 1000, 7)
            self.assertIs(is_road(setting, (), found[-1], found), True)

    def test_there_and_back(self):
        for setting in SETTINGS:
            for one, other in some_pairs(setting, 1000):
                there = road(setting, one, other)
                self.assertIs(is_road(setting, one, one, there + there[::-1][1:]), True)
                self.assertIs(is_road(setting, other, one, there[::-1]), True)

    def test_lists_with_a_gap(self):
        for setting in SETTINGS:
            neighbours = neighbours_of_spaces(setting)
            for at, space in enumerate(all_spaces(setting)):
                found = walk(neighbours, space, 9, at)
                for gap in range(1, 9):
                    # Without one subspace the dimensions of those beside it are equal, or they differ by 2.
                    self.assertIs(is_road(setting, space, found[-1], found[:gap] + found[gap + 1:]), False)
                    twice = found[:gap] + found[gap - 1:]
                    self.assertIs(is_road(setting, space, found[-1], twice), False)

    def test_a_gap_between_dimensions_that_differ_by_1(self):
        one, other = ((1, 0, 0),), ((0, 1, 0), (0, 0, 1))
        self.assertIs(is_road((2, 3), one, other, [one, other]), False)
        self.assertIs(is_road((2, 3), other, one, [other, one]), False)
        for setting in SETTINGS:
            neighbours = neighbours_of_spaces(setting)
            for one, other in some_pairs(setting, 20000):
                if abs(len(one) - len(other)) == 1:
                    self.assertIs(is_road(setting, one, other, [one, other]), other in neighbours[one], (one, other))

    def test_a_gap_between_dimensions_that_differ_by_2(self):
        least, greatest = least_and_greatest((2, 2))
        self.assertIs(is_road((2, 2), least, greatest, [least, greatest]), False)
        self.assertIs(is_road((2, 2), greatest, least, [greatest, least]), False)

    def test_the_wrong_first_or_last_subspace(self):
        for setting in SETTINGS:
            spaces = all_spaces(setting)
            for one, other in some_pairs(setting, 200):
                found = road(setting, one, other)
                for wrong in spaces[::len(spaces) // 20 + 1]:
                    self.assertIs(is_road(setting, wrong, other, found), wrong == one)
                    self.assertIs(is_road(setting, one, wrong, found), wrong == other)

    def test_the_empty_list(self):
        for setting in SETTINGS:
            for one, other in some_pairs(setting, 500):
                self.assertIs(is_road(setting, one, other, []), False)

    def test_one_subspace(self):
        for setting in SETTINGS:
            for one, other in some_pairs(setting):
                self.assertIs(is_road(setting, one, one, [one]), True)
                self.assertIs(is_road(setting, one, other, [one]), one == other)
                self.assertIs(is_road(setting, one, other, [other]), one == other)

    def test_lists_with_values_that_are_no_subspaces(self):
        for setting in SETTINGS:
            least, greatest = least_and_greatest(setting)
            found = road(setting, least, greatest)
            for wrong in not_spaces(setting):
                for value in ([wrong], [wrong] * 2, [wrong] + found, found + [wrong], found[:1] + [wrong] + found[1:]):
                    self.assertIs(is_road(setting, least, greatest, value), False)
                for at in range(len(found)):
                    self.assertIs(is_road(setting, least, greatest, found[:at] + [wrong] + found[at + 1:]), False)
                self.assertIs(is_road(setting, least, least, [least, wrong, least]), False)

    def test_true_is_no_entry(self):
        self.assertIs(is_road((2, 1), (), ((1,),), [(), ((1,),)]), True)
        self.assertIs(is_road((2, 1), (), ((1,),), [(), ((True,),)]), False)
        self.assertIs(is_road((2, 2), (), ((1, 0),), [(), ((1, False),)]), False)

    def test_values_that_are_no_lists(self):
        for setting in SETTINGS:
            for one, other in some_pairs(setting, 30):
                for value in not_lists(road(setting, one, other)):
                    self.assertIs(is_road(setting, one, other, value), False)
                for value in not_lists([one]):
                    self.assertIs(is_road(setting, one, one, value), False)

    def test_objects(self):
        for setting in SETTINGS:
            for value in OBJECTS:
                self.assertIs(is_road(setting, (), (), value), False)


class ExceptionsTest(unittest.TestCase):

    def test_exceptions(self):
        for setting in SETTINGS:
            wrong = not_spaces(setting)
            least, greatest = least_and_greatest(setting)
            faults = [setting_fault(), (1, InvalidSubspace, wrong), (2, InvalidSubspace, wrong)]
            for one, other in ((least, greatest), (greatest, least), (greatest, greatest), (least, least)):
                for function in (distance, road):
                    check_all_exceptions(self, function, (setting, one, other), faults)
                for value in (road(setting, one, other), None):
                    check_all_exceptions(self, is_road, (setting, one, other, value), faults)

    def test_a_wrong_value_hides_no_exception(self):
        for value in OBJECTS:
            check_raises(self, InvalidSubspace, is_road, ((2, 2), ((1, 1), (0, 1)), (), value))
            check_raises(self, InvalidSubspace, is_road, ((2, 2), (), ((1, 1), (0, 1)), value))

    def test_the_second_subspace_alone_is_of_another_setting(self):
        for function in (distance, road):
            check_raises(self, InvalidSubspace, function, ((2, 2), ((1, 1),), ((1, 0, 1),)))
            check_raises(self, InvalidSubspace, function, ((2, 2), ((1, 1),), ((1, 2),)))
        check_raises(self, InvalidSubspace, is_road, ((2, 2), ((1, 1),), ((1, 2),), [((1, 1),), ((1, 2),)]))


if __name__ == "__main__":
    unittest.main()
