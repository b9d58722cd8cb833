"""Systems of equations: tuples of pairs of a row and the integer that its product with a solution is."""

from smallspaces.counting import power
from smallspaces.errors import InvalidSystem, NoSolution
from smallspaces.meeting import opposite_rows
from smallspaces.rows import check_setting, is_number, is_row, unit_row
from smallspaces.spans import leading_place, reduced_rows, remainder

# The greatest number of equations of a system.
MOST_EQUATIONS = 8


def is_equation(setting, value):
    """Return whether value is a tuple of a row and an integer from 0 to p - 1."""
    if not isinstance(value, tuple) or len(value) != 2:
        return False
    row, right = value
    return is_row(setting, row) and is_number(right, 0, setting[0] - 1)


def is_system(setting, value):
    """Return whether value is a tuple of at most 8 equations."""
    if not isinstance(value, tuple) or len(value) > MOST_EQUATIONS:
        return False
    return all([is_equation(setting, equation) for equation in value])


def check_system(setting, system):
    """Raise InvalidSetting if setting is none, or InvalidSystem if system is none."""
    check_setting(setting)
    if not is_system(setting, system):
        raise InvalidSystem("a system is a tuple of at most 8 tuples of a row and an integer from 0 to p - 1")


def reduced_equations(setting, system):
    """Return the reduced rows that the rows of a system with their right sides behind them make, or None.

    None is returned if the system has no solution.
    """
    p, n = setting
    found = reduced_rows(p, [row + (right,) for row, right in system])
    # A leading place behind the row says that 0 is 1.
    if n in [leading_place(equation) for equation in found]:
        return None
    return found


def solve(setting, system):
    """Return the tuple of the least solution and the subspace that leads from it to all solutions."""
    check_system(setting, system)
    equations = reduced_equations(setting, system)
    if equations is None:
        raise NoSolution("the system has no solution")
    p, n = setting
    solution = [0] * n
    for equation in equations:
        solution[leading_place(equation)] = equation[n]
    space = opposite_rows(setting, tuple([equation[:n] for equation in equations]))
    # Of the solutions, only the least has 0 at all leading places of the subspace.
    return remainder(p, space, tuple(solution)), space


def count_solutions(setting, system):
    """Return the number of solutions."""
    check_system(setting, system)
    equations = reduced_equations(setting, system)
    if equations is None:
        return 0
    p, n = setting
    return power(p, n - len(equations))


def refutation(setting, system):
    """Return multiples that make 0 of the rows but not of their right sides, or None if there are solutions."""
    check_system(setting, system)
    p, n = setting
    many = len(system)
    # The places behind the right side keep count of the multiples from which a reduced row is made.
    traced = [row + (right,) + unit_row(many, at) for at, (row, right) in enumerate(system)]
    for equation in reduced_rows(p, traced):
        if leading_place(equation) == n:
            return equation[n + 1:]
    return None
