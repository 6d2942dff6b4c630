"""The greatest of sums over amounts that are bounded and tied to one another, by a table of whole numbers.

Each amount is from 0 to its most. Of each row the amounts, times the row's parts, and what is spare in it make
just its limit. Spare is from 0 on, and just 0 in a tight row. All limits are from 0 on, so noughts are a begin.
"""

from gainroads.fractions import common_divisor, fraction, over, taken, times


def common_multiple(numbers):
    """The least number, 1 of none, that all of these from 1 on divide."""
    multiple = 1
    for number in numbers:
        multiple = multiple * number // common_divisor(multiple, number)
    return multiple


def whole_times(part, number):
    """A fraction times a number that its divisor divides, as a number."""
    return part[0] * (number // part[1])


class Table:
    """Where a climb stands: some amounts are basic, one in each row, the others are loose and at a bound.

    The numbers in rows and goals are to be read over scale, so that none is ever parted: a loose amount each by its
    place, and last what the row's basic amount, or the goal, is worth. An amount that is turned counts from its
    bound downward, so that every loose one stands at 0. Spares are the first amounts, one for each row.
    """

    def __init__(self, columns, mosts, limits, goals):
        """Columns: dicts from rows to parts; limits: pairs (limit, tight); goals: lists with a part for each amount."""
        sizes = [common_multiple([part[1] for part in column.values()]) for column in columns]
        steps = [over(most, (size, 1)) for most, size in zip(mosts, sizes)]
        whole = common_multiple([step[1] for step in steps] + [limit[1] for limit, tight in limits])
        self.units = [fraction(size, whole) for size in sizes]
        self.bounds = [0 if tight else None for limit, tight in limits] + [whole_times(step, whole) for step in steps]
        self.turned = [False for bound in self.bounds]
        self.basic = list(range(len(limits)))
        self.loose = list(range(len(limits), len(self.bounds)))
        self.scale = 1
        self.rows = [first_row(columns, sizes, row) + [whole_times(limit, whole)]
                     for row, (limit, tight) in enumerate(limits)]
        parts = [[times(part, (size, 1)) for part, size in zip(goal, sizes)] for goal in goals]
        self.goal_units = [common_multiple([part[1] for part in goal]) for goal in parts]
        self.goals = [[-whole_times(part, unit) for part in goal] + [0] for goal, unit in zip(parts, self.goal_units)]


def first_row(columns, sizes, row):
    """A row's parts, each times its column's size."""
    return [whole_times(column.get(row, (0, 1)), size) for column, size in zip(columns, sizes)]


def multipliers(table, weights):
    """Numbers by which to add up the goals' rows as the weights say, and by what all of them are too great."""
    shares = [over(weight, (unit, 1)) for weight, unit in zip(weights, table.goal_units)]
    whole = common_multiple([share[1] for share in shares])
    return [whole_times(share, whole) for share in shares], whole


def weighed(table, numbers, at):
    """The goals' rows, times these numbers, together, at one place."""
    return sum([number * goal[at] for number, goal in zip(numbers, table.goals)])


def slopes_at(table, levels, at):
    """How steeply each level rises with the loose amount at a place."""
    return tuple([-weighed(table, numbers, at) for numbers in levels])


def entering(table, levels, standing):
    """The place of a loose amount with which the levels rise, the first one that changes deciding; None without."""
    flat = tuple([0 for numbers in levels])
    slopes = {}
    for at, index in enumerate(table.loose):
        if table.bounds[index] != 0:
            slope = slopes_at(table, levels, at)
            if slope > flat:
                slopes[at] = slope
    if len(slopes) == 0:
        return None
    # By the steepest one alone a climb that stands still might go round for ever.
    if standing:
        return min(list(slopes), key=lambda spot: table.loose[spot])
    return max(list(slopes), key=lambda spot: slopes[spot])


def reach_of(table, row, at):
    """How far the loose amount at a place may go for a row's basic one: (n, d, index, row); None without end."""
    line = table.rows[row]
    index = table.basic[row]
    if line[at] > 0:
        return (line[-1], line[at], index, row)
    if line[at] < 0 and table.bounds[index] is not None:
        return (table.scale * table.bounds[index] - line[-1], -line[at], index, row)
    return None


def is_nearer(one, other):
    """Whether one reach is shorter than another one, or alike and its index lower."""
    left = one[0] * other[1]
    right = other[0] * one[1]
    return left < right or left == right and one[2] < other[2]


def nearest(table, at):
    """The shortest reach of all rows, None where there is none."""
    best = None
    for row in range(len(table.rows)):
        reach = reach_of(table, row, at)
        if reach is not None and (best is None or is_nearer(reach, best)):
            best = reach
    return best


def turn_loose(table, at):
    """Lets the loose amount at a place go to its other bound."""
    index = table.loose[at]
    bound = table.bounds[index]
    for line in table.rows + table.goals:
        line[-1] -= line[at] * bound
        line[at] = -line[at]
    table.turned[index] = not table.turned[index]


def turn_basic(table, row):
    """Counts a row's basic amount from its other bound."""
    index = table.basic[row]
    line = table.rows[row]
    table.rows[row] = [-part for part in line[:-1]] + [table.scale * table.bounds[index] - line[-1]]
    table.turned[index] = not table.turned[index]


def exchanged(line, lead, at, scale):
    """A row behind the exchange of the leading row's basic amount for the loose one at a place."""
    pull = line[at]
    top = lead[at]
    if pull == 0:
        return [part * top // scale for part in line]
    fresh = [(part * top - pull * other) // scale for part, other in zip(line, lead)]
    fresh[at] = -pull
    return fresh


def exchange(table, row, at):
    """Makes the loose amount at a place a row's basic one, and that one loose."""
    lead = table.rows[row]
    scale = table.scale
    table.rows = [exchanged(line, lead, at, scale) for line in table.rows]
    table.rows[row] = lead[:at] + [scale] + lead[at + 1:]
    table.goals = [exchanged(line, lead, at, scale) for line in table.goals]
    table.scale = lead[at]
    table.basic[row], table.loose[at] = table.loose[at], table.basic[row]


def advance(table, at):
    """Lets the loose amount at a place go as far as it may; whether that is any way at all."""
    bound = table.bounds[table.loose[at]]
    reach = nearest(table, at)
    if bound is not None and (reach is None or bound * reach[1] <= reach[0]):
        turn_loose(table, at)
        return True
    far, pull, index, row = reach
    if table.rows[row][at] < 0:
        turn_basic(table, row)
    exchange(table, row, at)
    return far > 0


def climb(table, aims):
    """Goes to amounts of which no others have a greater first aim, nor with that as great a greater next one.

    An aim is a list with a weight for each goal.
    """
    levels = [multipliers(table, weights)[0] for weights in aims]
    at = entering(table, levels, False)
    while at is not None:
        moved = advance(table, at)
        at = entering(table, levels, not moved)


def amounts_of(table):
    """What each amount is."""
    basic = {index: fraction(line[-1], table.scale) for index, line in zip(table.basic, table.rows)}
    amounts = []
    for at, unit in enumerate(table.units):
        index = len(table.rows) + at
        amount = basic.get(index, (0, 1))
        if table.turned[index]:
            amount = taken((table.bounds[index], 1), amount)
        amounts.append(times(amount, unit))
    return amounts


def row_worths(table, weights):
    """By how much the aim of these weights would rise for each of a little more in each row's limit."""
    numbers, whole = multipliers(table, weights)
    worths = [(0, 1) for row in table.rows]
    for at, index in enumerate(table.loose):
        if index < len(worths):
            worth = fraction(weighed(table, numbers, at), whole * table.scale)
            worths[index] = taken((0, 1), worth) if table.turned[index] else worth
    return worths
