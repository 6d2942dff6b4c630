"""Worths of a day's places, hour by hour, which show that no book adds up by more, and that none is cheaper."""

from gainroads.dayprice import cheapest_table
from gainroads.days import adds_up, day_price, may_send
from gainroads.dayshare import SHARE, share_table
from gainroads.daytable import worths_in
from gainroads.fractions import added, fraction, from_nought, greatest, is_from_nought, sum_of, taken, times
from gainroads.nets import goes_within


def worth_at(day, worths, place, hour):
    """What a place is worth in an hour, 0 behind the last one."""
    return worths[day[0].index(place)][hour] if hour < day[1] else (0, 1)


def tie_lifts(day, worths, tie, priced):
    """Of each hour in which a book may send on a tie its most times by how much it lifts worths."""
    begin, end, most, gain, price, late, opens = tie
    toll = price if priced else (0, 1)
    lifts = []
    for hour in opens:
        if may_send(day, tie, hour):
            above = added(worth_at(day, worths, begin, hour), toll)
            comes = times(gain, worth_at(day, worths, end, hour + late))
            lifts.append(times(most, from_nought(taken(comes, above))))
    return lifts


def store_lifts(day, worths, store):
    """Of each hour a store's most times by how much it lifts worths to the next one."""
    place, most, keep = store
    lifts = []
    for hour in range(day[1]):
        comes = times(keep, worth_at(day, worths, place, hour + 1))
        lifts.append(times(most, from_nought(taken(comes, worth_at(day, worths, place, hour)))))
    return lifts


def well_lift(day, worths, well, priced):
    """A well's most times by how much its worth is above 0, or above its price."""
    place, hour, most, price = well
    toll = price if priced else (0, 1)
    return times(most, from_nought(taken(worth_at(day, worths, place, hour), toll)))


def lift_sum(day, worths, priced):
    """What ties, stores and wells let worths rise, beyond their prices if priced is True, together."""
    lifts = [well_lift(day, worths, well, priced) for well in day[4]]
    for tie in day[2]:
        lifts.extend(tie_lifts(day, worths, tie, priced))
    for store in day[3]:
        lifts.extend(store_lifts(day, worths, store))
    return sum_of(lifts)


def wishes_sum(day, worths):
    """The wishes' amounts times their worths, together."""
    return sum_of([times(amount, worth_at(day, worths, place, hour)) for place, hour, amount in day[5]])


def share_worths(day):
    """Worths whose lift_sum, and by how much 1 is above what the wishes are worth, are day_share's share."""
    return worths_in(share_table(day), day, SHARE)


def share_weight(table):
    """A weight of the share beside which, where the table stands, the price can't be made lower for less of it."""
    shares, prices = table.goals
    weights = [(0, 1)]
    for at in range(len(table.loose)):
        # Goals' rows bear the sign turned, so what is above 0 takes some of the share away.
        if shares[at] > 0:
            weights.append(fraction(prices[at] * table.goal_units[0], shares[at] * table.goal_units[1]))
    return greatest(weights)


def day_worths(day):
    """Worths of which what the wishes are worth less lift_sum, priced, is cheapest_day's price; refused with Short."""
    table, book = cheapest_table(day)
    return worths_in(table, day, (share_weight(table), (-1, 1)))


def are_day_worths(day, thing):
    """Whether a thing is a list with, for each place, a list with a fraction from 0 on for each hour."""
    if not isinstance(thing, list) or len(thing) != len(day[0]):
        return False
    if not all([isinstance(worths, list) and len(worths) == day[1] for worths in thing]):
        return False
    return all([is_from_nought(worth) for worths in thing for worth in worths])


def shows_share(day, share, book, worths):
    """Whether these are a share from 0 to 1, a book that adds up by it, and worths that let no book do by more."""
    if not goes_within(share, (1, 1)) or not adds_up(day, book, share) or not are_day_worths(day, worths):
        return False
    rest = from_nought(taken((1, 1), wishes_sum(day, worths)))
    return share == added(lift_sum(day, worths, False), rest)


def shows_cheapest_day(day, book, worths):
    """Whether these are a book that adds up by 1, and worths that let none do so for less."""
    if not adds_up(day, book, (1, 1)) or not are_day_worths(day, worths):
        return False
    return day_price(day, book) == taken(wishes_sum(day, worths), lift_sum(day, worths, True))
