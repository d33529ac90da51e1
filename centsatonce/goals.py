"""Goals: bounds for the sums of the wholes of totals."""

from centsatonce.days import is_day
from centsatonce.numbers import ceiling_of, floor_of, sum_of


def total_wholes(table, day):
    """Return for each total the sum of the wholes of its lines."""
    sums = []
    for total in table.totals:
        sums.append(sum([whole for kind, amount, whole in day if kind in total]))
    return tuple(sums)


def near_goal(table, lines):
    """Return for each total the wholes next to the sum of the amounts of its lines."""
    goal = []
    for total in table.totals:
        exact = sum_of([amount for kind, amount in lines if kind in total])
        goal.append((floor_of(exact), ceiling_of(exact)))
    return tuple(goal)


def meets_goal(table, goal, day):
    """Return whether each sum for which the goal tells a pair lies within it."""
    for bounds, whole in zip(goal, total_wholes(table, day)):
        if bounds is not None and not bounds[0] <= whole <= bounds[1]:
            return False
    return True


def is_goal_day(table, lines, goal, value, kept=True):
    """Return whether any value is a day with just these lines that meets a goal, perhaps a kept one."""
    if not is_day(table, value, kept):
        return False
    if tuple([(kind, amount) for kind, amount, whole in value]) != lines:
        return False
    return meets_goal(table, goal, value)
