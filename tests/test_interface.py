"""Names, arguments and kinds of values as the interface lists them, and what point 1 says of all functions."""

import copy
import importlib
import inspect
import unittest

from smallspaces.builder import Builder
from smallspaces.counting import all_subspaces, between, count_flags, count_subspaces
from smallspaces.distances import distance, is_road, road
from smallspaces.equations import count_solutions, refutation, solve
from smallspaces.errors import (
    InvalidNumber, InvalidRow, InvalidRows, InvalidSetting, InvalidSubspace, InvalidSystem, NoSolution, NotInside,
    ParseError,
)
from smallspaces.formatting import format_space, parse_space
from smallspaces.meeting import complements, meet, opposite, sum_of
from smallspaces.rows import combine, is_row, is_setting, product
from smallspaces.spans import has_row, is_inside, is_subspace, members, span
from tests.helpers import SETTINGS, all_rows, all_spaces, least_and_greatest, some_rows

FUNCTIONS = {
    "smallspaces.rows": {
        "is_setting": ["value"],
        "is_row": ["setting", "value"],
        "combine": ["setting", "one", "factor", "other"],
        "product": ["setting", "one", "other"],
    },
    "smallspaces.spans": {
        "is_subspace": ["setting", "value"],
        "span": ["setting", "rows"],
        "members": ["setting", "space"],
        "has_row": ["setting", "space", "row"],
        "is_inside": ["setting", "one", "other"],
    },
    "smallspaces.meeting": {
        "sum_of": ["setting", "one", "other"],
        "meet": ["setting", "one", "other"],
        "opposite": ["setting", "space"],
        "complements": ["setting", "space"],
    },
    "smallspaces.counting": {
        "count_subspaces": ["setting", "k"],
        "all_subspaces": ["setting", "k"],
        "between": ["setting", "one", "other", "k"],
        "count_flags": ["setting"],
    },
    "smallspaces.distances": {
        "distance": ["setting", "one", "other"],
        "road": ["setting", "one", "other"],
        "is_road": ["setting", "one", "other", "value"],
    },
    "smallspaces.equations": {
        "solve": ["setting", "system"],
        "count_solutions": ["setting", "system"],
        "refutation": ["setting", "system"],
    },
    "smallspaces.formatting": {
        "format_space": ["setting", "space"],
        "parse_space": ["text"],
    },
}

# The examples that the interface gives.
EXAMPLES = [
    (is_setting, ((2, 3),), True),
    (is_row, ((2, 3), (1, 0, 2)), False),
    (combine, ((3, 2), (1, 2), 2, (1, 1)), (0, 1)),
    (product, ((3, 2), (1, 2), (1, 1)), 0),
    (is_subspace, ((2, 3), ((1, 0, 1), (0, 1, 1))), True),
    (span, ((2, 3), [(1, 1, 0), (0, 1, 1)]), ((1, 0, 1), (0, 1, 1))),
    (members, ((2, 2), ((1, 1),)), [(0, 0), (1, 1)]),
    (has_row, ((2, 2), ((1, 1),), (1, 0)), False),
    (is_inside, ((2, 2), (), ((1, 1),)), True),
    (meet, ((2, 2), ((1, 0),), ((0, 1),)), ()),
    (opposite, ((2, 2), ((1, 1),)), ((1, 1),)),
    (complements, ((2, 2), ((1, 1),)), [((0, 1),), ((1, 0),)]),
    (count_subspaces, ((2, 3), 1), 7),
    (all_subspaces, ((2, 2), 1), [((0, 1),), ((1, 0),), ((1, 1),)]),
    (between, ((2, 2), (), ((1, 0), (0, 1)), 1), [((0, 1),), ((1, 0),), ((1, 1),)]),
    (count_flags, ((2, 3),), 21),
    (distance, ((2, 2), ((1, 0),), ((0, 1),)), 2),
    (road, ((2, 1), (), ((1,),)), [(), ((1,),)]),
    (is_road, ((2, 1), (), (), [()]), True),
    (solve, ((3, 2), (((1, 1), 2),)), ((0, 2), ((1, 2),))),
    (count_solutions, ((3, 2), (((1, 1), 2),)), 3),
    (refutation, ((2, 1), (((1,), 0), ((1,), 1))), (1, 1)),
    (format_space, ((2, 3), ((1, 0, 1), (0, 1, 1))), "2 3\n101\n011"),
    (parse_space, ("2 3\n101\n011",), ((2, 3), ((1, 0, 1), (0, 1, 1)))),
    # The interface gives none for sum_of.
    (sum_of, ((2, 2), ((1, 0),), ((0, 1),)), ((1, 0), (0, 1))),
]

# Calls that raise an exception, with lists in their arguments.
WRONG_CALLS = [
    (is_row, ([2, 3], [1, 0, 1]), InvalidSetting),
    (combine, ((2, 2), [1, 0], 1, [1, 1]), InvalidRow),
    (combine, ((2, 2), (1, 0), [1], [1, 1]), InvalidNumber),
    (combine, ((2, 2), (1, 0), 1, [1, 1]), InvalidRow),
    (product, ((2, 2), (1, 0), [1, 1]), InvalidRow),
    (is_subspace, ([2, 2], [(1, 0), (1, 0)]), InvalidSetting),
    (span, ([2, 2], [(1, 0), (1, 1)]), InvalidSetting),
    (span, ((2, 2), [(1, 1), (1, 0), [0, 1]]), InvalidRows),
    (span, ((2, 2), [(1, 1), (1, 0), (2, 1)]), InvalidRows),
    (span, ((2, 2), [(1, 1), (1, 0)] * 7), InvalidRows),
    (members, ((2, 2), [(1, 1), (1, 0)]), InvalidSubspace),
    (has_row, ((2, 2), [(1, 1), (1, 0)], (1, 1)), InvalidSubspace),
    (has_row, ((2, 2), ((1, 1),), [1, 1]), InvalidRow),
    (is_inside, ((2, 2), [(1, 1), (1, 0)], ((1, 1),)), InvalidSubspace),
    (is_inside, ((2, 2), ((1, 1),), [(1, 1), (1, 0)]), InvalidSubspace),
    (sum_of, ((2, 2), [(1, 1), (1, 0)], ((1, 1),)), InvalidSubspace),
    (sum_of, ((2, 2), ((1, 1),), [(1, 1), (1, 0)]), InvalidSubspace),
    (meet, ([2, 2], ((1, 1),), ((1, 1),)), InvalidSetting),
    (meet, ((2, 2), ((1, 1),), [(1, 1), (1, 0)]), InvalidSubspace),
    (opposite, ((2, 2), [(1, 1), (1, 0)]), InvalidSubspace),
    (complements, ((2, 2), [(1, 1), (1, 0)]), InvalidSubspace),
    (count_subspaces, ((2, 3), [1]), InvalidNumber),
    (all_subspaces, ((2, 2), [1]), InvalidNumber),
    (between, ((2, 2), ((1, 1),), [(1, 1), (1, 0)], 0), InvalidSubspace),
    (between, ((2, 2), ((1, 1),), (), [0]), NotInside),
    (between, ((2, 2), (), ((1, 1),), [0]), InvalidNumber),
    (count_flags, ([2, 3],), InvalidSetting),
    (distance, ((2, 2), ((1, 0),), [(1, 1), (1, 0)]), InvalidSubspace),
    (road, ((2, 1), (), [(1,), (0,)]), InvalidSubspace),
    (is_road, ((2, 1), (), [], [(), []]), InvalidSubspace),
    (solve, ((3, 2), [((1, 1), 2)]), InvalidSystem),
    (solve, ((3, 2), (((1, 1), 2), [(1, 1), 2])), InvalidSystem),
    (solve, ((3, 2), (((1, 1), 2), ((2, 2), 2))), NoSolution),
    (count_solutions, ((3, 2), (([1, 1], 2),)), InvalidSystem),
    (refutation, ((2, 1), (((1,), 0), ((1,), [1]))), InvalidSystem),
    (format_space, ((2, 2), [(1, 1)]), InvalidSubspace),
    (format_space, ((2, 2), ([1, 1],)), InvalidSubspace),
    (parse_space, (["2 2", "11"],), ParseError),
    (Builder, ([2, 2],), InvalidSetting),
    (Builder((2, 2)).put, ([1, 1],), InvalidRow),
]


def valid_calls(setting):
    """Return some calls of each function, as pairs of it and its arguments."""
    p, n = setting
    rows = all_rows(setting)
    one, other = rows[len(rows) // 2], rows[-1]
    spaces = all_spaces(setting)
    calls = [(is_setting, (setting,)), (is_setting, ([p, n],))]
    calls = calls + [(is_row, (setting, one)), (is_row, (setting, list(one)))]
    calls = calls + [(combine, (setting, one, p - 1, other)), (product, (setting, one, other))]
    calls = calls + [(is_subspace, (setting, spaces[-1])), (is_subspace, (setting, [other, one]))]
    for many in (0, 1, 5, 12):
        calls.append((span, (setting, some_rows(setting, many, many))))
    calls.append((span, (setting, [other, other, one, one])))
    for space in spaces[::5] + spaces[-1:]:
        calls = calls + [(members, (setting, space)), (has_row, (setting, space, one))]
        calls = calls + [(is_inside, (setting, space, spaces[-1])), (is_inside, (setting, spaces[-1], space))]
    calls = calls + calls_of_one_space(setting) + calls_of_two_spaces(setting) + calls_that_count(setting)
    return calls + calls_of_systems(setting)


def calls_of_one_space(setting):
    """Return some calls of the functions that take one subspace."""
    spaces = all_spaces(setting)
    chosen = spaces[::len(spaces) // 10 + 1] + spaces[-1:]
    functions = (members, opposite, complements, format_space)
    calls = [(function, (setting, space)) for space in chosen for function in functions]
    return calls + [(parse_space, (format_space(setting, space),)) for space in chosen]


def calls_of_two_spaces(setting):
    """Return some calls of the functions that take two subspaces."""
    spaces = all_spaces(setting)
    chosen = spaces[::len(spaces) // 6 + 1] + spaces[-1:]
    calls = []
    for one in chosen:
        for other in chosen:
            calls = calls + [(function, (setting, one, other)) for function in (sum_of, meet, distance, road)]
            for value in ([one, other], [one, (), other], [()], [list(one)], []):
                calls.append((is_road, (setting, one, other, value)))
    return calls


def calls_that_count(setting):
    """Return some calls of the functions of smallspaces.counting."""
    least, greatest = least_and_greatest(setting)
    calls = [(count_flags, (setting,))]
    for k in range(setting[1] + 1):
        calls = calls + [(count_subspaces, (setting, k)), (all_subspaces, (setting, k))]
        calls = calls + [(between, (setting, least, greatest, k)), (between, (setting, least, greatest[:k], k))]
    return calls


def calls_of_systems(setting):
    """Return some calls of the functions of smallspaces.equations."""
    calls = []
    for many in range(9):
        rows = some_rows(setting, many, many + 40)
        for rights in ([0] * many, list(range(many))):
            system = tuple((row, right % setting[0]) for row, right in zip(rows, rights))
            calls = calls + [(count_solutions, (setting, system)), (refutation, (setting, system))]
            if count_solutions(setting, system) > 0:
                calls.append((solve, (setting, system)))
    return calls


def build_and_ask(setting, rows):
    """Return all that a builder with these rows, and a duplicate of it, tell."""
    builder = Builder(setting)
    told = []
    for row in rows:
        told = told + [builder.put(row), builder.space(), builder.rows(), builder.missing(), str(builder), len(builder)]
    duplicate = builder.duplicate()
    told.append(duplicate == builder)
    for row in rows:
        told = told + [builder.undo(), builder.rows(), duplicate.put(row), duplicate.rows()]
    return told


class NamesTest(unittest.TestCase):

    def test_each_function_is_defined_in_the_file_that_lists_it(self):
        for file, functions in FUNCTIONS.items():
            module = importlib.import_module(file)
            for name in functions:
                function = getattr(module, name)
                self.assertTrue(inspect.isfunction(function), name)
                self.assertEqual((function.__name__, function.__module__), (name, file))

    def test_each_function_has_the_arguments_of_the_interface(self):
        for file, functions in FUNCTIONS.items():
            for name, arguments in functions.items():
                parameters = inspect.signature(getattr(importlib.import_module(file), name)).parameters
                self.assertEqual(list(parameters), arguments, name)
                for parameter in parameters.values():
                    self.assertIs(parameter.kind, inspect.Parameter.POSITIONAL_OR_KEYWORD)
                    self.assertIs(parameter.default, inspect.Parameter.empty)

    def test_arguments_may_be_given_by_name(self):
        for function, arguments, expected in EXAMPLES:
            names = FUNCTIONS[function.__module__][function.__name__]
            self.assertEqual(function(**dict(zip(names, arguments))), expected)


class EveryFunctionTest(unittest.TestCase):

    def test_examples_of_the_interface(self):
        for function, arguments, expected in EXAMPLES:
            found = function(*arguments)
            self.assertEqual(found, expected, function.__name__)
            self.assertIs(type(found), type(expected), function.__name__)

    def test_arguments_stay_as_they_are_and_equal_calls_return_equal_results(self):
        for setting in SETTINGS:
            for function, arguments in valid_calls(setting):
                before = copy.deepcopy(arguments)
                found = function(*arguments)
                self.assertEqual(arguments, before, function.__name__)
                self.assertEqual(function(*arguments), found, function.__name__)
                self.assertEqual(function(*before), found, function.__name__)

    def test_the_order_of_calls_does_not_matter(self):
        calls = [call for setting in SETTINGS for call in valid_calls(setting)]
        found = [function(*arguments) for function, arguments in calls]
        again = [function(*arguments) for function, arguments in reversed(calls)]
        self.assertEqual(found, again[::-1])

    def test_a_returned_list_is_a_new_list(self):
        for setting in SETTINGS:
            for function, arguments in valid_calls(setting):
                found = function(*arguments)
                if isinstance(found, list):
                    expected = list(found)
                    self.assertIsNot(function(*arguments), found)
                    found.append("changed by its caller")
                    found[0] = None
                    self.assertEqual(function(*arguments), expected, function.__name__)

    def test_returned_lists_that_their_callers_change_change_no_answer_of_any_function(self):
        for setting in SETTINGS:
            calls = valid_calls(setting)
            found = [function(*arguments) for function, arguments in calls]
            expected = copy.deepcopy(found)
            for result in found:
                if isinstance(result, list):
                    result.clear()
            self.assertEqual([function(*arguments) for function, arguments in calls], expected)

    def test_a_list_that_its_caller_changes_gives_a_new_answer(self):
        rows = [(1, 0)]
        self.assertEqual(span((2, 2), rows), ((1, 0),))
        rows[0] = (0, 1)
        self.assertEqual(span((2, 2), rows), ((0, 1),))
        rows.append((1, 1))
        self.assertEqual(span((2, 2), rows), ((1, 0), (0, 1)))
        steps = [()]
        self.assertIs(is_road((2, 1), (), (), steps), True)
        steps.append(((1,),))
        self.assertIs(is_road((2, 1), (), (), steps), False)
        self.assertIs(is_road((2, 1), (), ((1,),), steps), True)

    def test_a_call_that_raises_changes_nothing(self):
        for function, arguments, expected in WRONG_CALLS:
            before = copy.deepcopy(arguments)
            for _ in range(2):
                with self.assertRaises(expected):
                    function(*arguments)
                self.assertEqual(arguments, before, function.__name__)
            for right_function, right_arguments, result in EXAMPLES:
                self.assertEqual(right_function(*right_arguments), result)

    def test_builders_tell_the_same_again_with_other_calls_in_between(self):
        for setting in SETTINGS:
            rows = some_rows(setting, 6, 50)
            told = build_and_ask(setting, rows)
            for function, arguments in valid_calls(setting)[::10]:
                function(*arguments)
            build_and_ask(setting, rows[::-1])
            self.assertEqual(build_and_ask(setting, rows), told)

    def test_calls_between_those_of_a_builder_do_not_change_it(self):
        for setting in SETTINGS:
            rows = some_rows(setting, 6, 51)
            builder = Builder(setting)
            for many, row in enumerate(rows):
                builder.put(row)
                found = span(setting, builder.rows())
                build_and_ask(setting, rows)
                for function, arguments in valid_calls(setting)[many::70]:
                    function(*arguments)
                self.assertEqual((builder.space(), builder.rows()), (found, rows[:many + 1]))


if __name__ == "__main__":
    unittest.main()
