"""The table of a net's streams: what goes on the ties, what is kept at the places, what is brought and paid."""

from gainroads.fractions import taken
from gainroads.simplex import Table, row_worths


def inner_places(net, begin, end):
    """The places at which a stream must leave 0."""
    return [place for place in net[0] if place not in (begin, end)]


def tie_column(tie, inner):
    """What a tie adds, for each of what goes on it, to what is left at inner places, by their numbers."""
    column = {}
    if tie[0] in inner:
        column[inner.index(tie[0])] = (-1, 1)
    if tie[1] in inner:
        column[inner.index(tie[1])] = tie[3]
    return column


def brought_by(tie, end):
    """What a tie adds, for each of what goes on it, to what is left at end."""
    if tie[0] == end:
        return (-1, 1)
    return tie[3] if tie[1] == end else (0, 1)


def net_table(net, begin, end):
    """The table of the streams that keep (begin, end); its goals are what they bring, and their price."""
    inner = inner_places(net, begin, end)
    columns = [tie_column(tie, inner) for tie in net[1]]
    mosts = [tie[2] for tie in net[1]]
    limits = [((0, 1), True) for place in inner]
    brings = [brought_by(tie, end) for tie in net[1]]
    return Table(columns, mosts, limits, [brings, [tie[4] for tie in net[1]]])


def worths_at(table, net, begin, end, weights):
    """What a little more at each place is worth by the weights of what is brought and of the price."""
    # A row's limit is 0 less what more comes from elsewhere, so worths are the rows' with the sign turned.
    rows = row_worths(table, weights)
    worths = {begin: (0, 1), end: weights[0]}
    for place, worth in zip(inner_places(net, begin, end), rows):
        worths[place] = taken((0, 1), worth)
    return [worths[place] for place in net[0]]
