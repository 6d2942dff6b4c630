"""The most that a net can bring from begin to end, and the worths that show that nothing brings more."""

from gainroads.fractions import compared, is_fraction, sum_of, taken, times
from gainroads.nets import is_stream, keeps, left_at
from gainroads.nettable import net_table, worths_at
from gainroads.simplex import amounts_of, climb

# What is brought counts, its price doesn't.
BRINGS = ((1, 1), (0, 1))


def most_with_worths(net, begin, end):
    """The most's value, a stream that brings it, and worths that show it."""
    table = net_table(net, begin, end)
    climb(table, [BRINGS])
    stream = amounts_of(table)
    return (left_at(net, stream, end), stream, worths_at(table, net, begin, end, BRINGS))


def most(net, begin, end):
    """A pair (value, stream), a stream that keeps and brings value, such that none brings more."""
    value, stream, worths = most_with_worths(net, begin, end)
    return (value, stream)


def most_worths(net, begin, end):
    """Worths, 0 of begin and 1 of end, of which cut_sum is the most's value."""
    value, stream, worths = most_with_worths(net, begin, end)
    return worths


def are_worths(net, thing):
    """Whether a thing is a list with a fraction for each place."""
    if not isinstance(thing, list) or len(thing) != len(net[0]):
        return False
    return all([is_fraction(worth) for worth in thing])


def lifts(net, worths):
    """For each tie by how much its gain times its end's worth is above its begin's, below 0 where it isn't."""
    at = dict(zip(net[0], worths))
    return [taken(times(tie[3], at[tie[1]]), at[tie[0]]) for tie in net[1]]


def cut_ties(net, worths):
    """The rising list of the numbers of the ties that worths cut."""
    return [number for number, lift in enumerate(lifts(net, worths)) if compared(lift, (0, 1)) > 0]


def cut_sum(net, worths):
    """Of each tie that worths cut its most times by how much, together."""
    by = lifts(net, worths)
    return sum_of([times(net[1][number][2], by[number]) for number in cut_ties(net, worths)])


def shows_most(net, begin, end, stream, worths):
    """Whether these are a stream that keeps, and worths, 0 of begin and 1 of end, of just the cut_sum it brings."""
    if not is_stream(net, stream) or not keeps(net, stream, begin, end) or not are_worths(net, worths):
        return False
    if worths[net[0].index(begin)] != (0, 1) or worths[net[0].index(end)] != (1, 1):
        return False
    return left_at(net, stream, end) == cut_sum(net, worths)
