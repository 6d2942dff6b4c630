"""The greatest share of a plan's wishes that can be met, and the worths that show that no greater one can."""

from gainroads.fractions import compared, from_nought, greatest, is_fraction, sum_of, taken, times
from gainroads.plans import counts_up, wished_at
from gainroads.simplex import Table, amounts_of, climb, row_worths


def row_at(plan, place, stuff):
    """The number of the table's row of a place and a stuff."""
    return plan[0].index(place) * len(plan[1]) + plan[1].index(stuff)


def tie_columns(plan):
    """What goes on each tie of each stuff; behind the rows of places and stuffs each tie has one of its own."""
    first = len(plan[0]) * len(plan[1])
    columns = []
    for number, (begin, end, most, gain) in enumerate(plan[2]):
        for stuff in plan[1]:
            columns.append({row_at(plan, begin, stuff): (-1, 1), row_at(plan, end, stuff): gain,
                            first + number: (1, 1)})
    return columns


def share_column(plan):
    """What is taken away everywhere where all wishes are met."""
    wished = {(place, stuff): wished_at(plan, place, stuff) for place, stuff, amount in plan[5]}
    return {row_at(plan, place, stuff): taken((0, 1), amount) for (place, stuff), amount in wished.items()}


def plan_table(plan):
    """The table of a plan's sendings; its last amount, and its goal, is the share."""
    places, stuffs, ties, turners, wells, wishes = plan
    columns = tie_columns(plan)
    mosts = [tie[2] for tie in ties for stuff in stuffs]
    for place, stuff, other, most, gain in turners:
        columns.append({row_at(plan, place, stuff): (-1, 1), row_at(plan, place, other): gain})
        mosts.append(most)
    for place, stuff, most in wells:
        columns.append({row_at(plan, place, stuff): (1, 1)})
        mosts.append(most)
    columns.append(share_column(plan))
    mosts.append((1, 1))
    limits = [((0, 1), True) for place in places for stuff in stuffs] + [(tie[2], False) for tie in ties]
    return Table(columns, mosts, limits, [[(0, 1) for column in columns[1:]] + [(1, 1)]])


def climbed(plan):
    """A plan's table where the share is the greatest."""
    table = plan_table(plan)
    climb(table, [[(1, 1)]])
    return table


def served(plan):
    """A pair (share, sending): the greatest share of which a sending counts up, and one."""
    amounts = amounts_of(climbed(plan))
    many = len(plan[1])
    behind = many * len(plan[2])
    goes = [amounts[at:at + many] for at in range(0, behind, many)]
    turns = amounts[behind:behind + len(plan[3])]
    draws = amounts[behind + len(plan[3]):-1]
    return (amounts[-1], (goes, turns, draws))


def served_worths(plan):
    """Worths of which toll_sum is served's share."""
    rows = row_worths(climbed(plan), [(1, 1)])
    many = len(plan[1])
    # A row's limit is 0 less what more comes from elsewhere, so worths are the rows' with the sign turned.
    return [[taken((0, 1), worth) for worth in rows[at * many:at * many + many]] for at in range(len(plan[0]))]


def are_plan_worths(plan, thing):
    """Whether a thing is a list with, for each place, a list with a fraction for each stuff."""
    if not isinstance(thing, list) or len(thing) != len(plan[0]):
        return False
    if not all([isinstance(worths, list) and len(worths) == len(plan[1]) for worths in thing]):
        return False
    return all([is_fraction(worth) for worths in thing for worth in worths])


def tie_toll(tie, begins, ends):
    """A tie's most times the greatest of by how much it lifts a stuff's worth, from begins to ends."""
    lifts = [taken(times(tie[3], end), begin) for begin, end in zip(begins, ends)]
    return times(tie[2], from_nought(greatest(lifts)))


def turner_toll(plan, turner, worths):
    """A turner's most times by how much it lifts the worth of what it takes in."""
    place, stuff, other, most, gain = turner
    there = dict(zip(plan[1], worths))
    return times(most, from_nought(taken(times(gain, there[other]), there[stuff])))


def toll_sum(plan, worths):
    """What ties, turners and wells let worths rise, and by how much 1 is above what all wishes are worth."""
    at = dict(zip(plan[0], worths))
    worth = {(place, stuff): at[place][plan[1].index(stuff)] for place in plan[0] for stuff in plan[1]}
    tolls = [tie_toll(tie, at[tie[0]], at[tie[1]]) for tie in plan[2]]
    tolls.extend([turner_toll(plan, turner, at[turner[0]]) for turner in plan[3]])
    tolls.extend([times(most, from_nought(worth[(place, stuff)])) for place, stuff, most in plan[4]])
    wished = sum_of([times(amount, worth[(place, stuff)]) for place, stuff, amount in plan[5]])
    tolls.append(from_nought(taken((1, 1), wished)))
    return sum_of(tolls)


def shows_served(plan, share, sending, worths):
    """Whether these are a share from 0 to 1, a sending that counts up by it, and worths whose toll_sum it is."""
    if not is_fraction(share) or compared(share, (0, 1)) < 0 or compared(share, (1, 1)) > 0:
        return False
    if not counts_up(plan, share, sending) or not are_plan_worths(plan, worths):
        return False
    return share == toll_sum(plan, worths)
