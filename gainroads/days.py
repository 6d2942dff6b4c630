"""Days with stores that leak and ties that open and shut, and the books in them."""

from gainroads.fractions import compared, is_above_nought, is_fraction, is_from_nought, is_number, sum_of, taken, times
from gainroads.nets import are_names, goes_within, is_tie
from gainroads.plans import are_within, is_tuple_of


def is_hour(hours, thing):
    """Whether a thing is one of so many hours."""
    return is_number(thing) and 0 <= thing < hours


def are_opens(hours, thing):
    """Whether a thing is a rising tuple of unlike hours."""
    if not isinstance(thing, tuple) or not all([is_hour(hours, hour) for hour in thing]):
        return False
    return all([ahead < behind for ahead, behind in zip(thing, thing[1:])])


def is_day_tie(places, hours, thing):
    """Whether a thing is a tuple (begin, end, most, gain, price, late, opens)."""
    if not is_tuple_of(thing, 7) or not is_tie(places, thing[:5]):
        return False
    return is_number(thing[5]) and thing[5] >= 0 and are_opens(hours, thing[6])


def is_store(places, thing):
    """Whether a thing is a tuple (place, most, keep)."""
    if not is_tuple_of(thing, 3) or thing[0] not in places:
        return False
    return is_from_nought(thing[1]) and goes_within(thing[2], (1, 1))


def is_day_well(places, hours, thing):
    """Whether a thing is a tuple (place, hour, most, price)."""
    if not is_tuple_of(thing, 4) or thing[0] not in places or not is_hour(hours, thing[1]):
        return False
    return is_from_nought(thing[2]) and is_from_nought(thing[3])


def is_day_wish(places, hours, thing):
    """Whether a thing is a tuple (place, hour, amount)."""
    if not is_tuple_of(thing, 3) or thing[0] not in places:
        return False
    return is_hour(hours, thing[1]) and is_above_nought(thing[2])


def is_day(thing):
    """Whether a thing is a day, of whatever size."""
    if not is_tuple_of(thing, 6):
        return False
    places, hours, ties, stores, wells, wishes = thing
    if not are_names(places) or not is_number(hours) or hours < 1:
        return False
    if not all([isinstance(parts, tuple) for parts in (ties, stores, wells, wishes)]):
        return False
    if not all([is_day_tie(places, hours, tie) for tie in ties]):
        return False
    if not all([is_store(places, store) for store in stores]):
        return False
    if len(set([store[0] for store in stores])) != len(stores):
        return False
    if not all([is_day_well(places, hours, well) for well in wells]):
        return False
    return all([is_day_wish(places, hours, wish) for wish in wishes])


def may_send(day, tie, hour):
    """Whether a tie is open in an hour, and what is sent then comes by the last one."""
    return hour in tie[6] and hour + tie[5] < day[1]


def tie_mosts(day, tie):
    """What may be sent on a tie in each hour at most."""
    return [tie[2] if may_send(day, tie, hour) else (0, 1) for hour in range(day[1])]


def store_mosts(day, store):
    """What may be kept in a store behind each hour at most."""
    return [store[1] for hour in range(day[1])]


def are_hourly(thing, mosts):
    """Whether a thing is a list with, for each list of mosts, one of fractions from 0 to these."""
    if not isinstance(thing, list) or len(thing) != len(mosts):
        return False
    return all([are_within(row, caps) for row, caps in zip(thing, mosts)])


def is_book(day, thing):
    """Whether a thing is a book of a day."""
    if not is_tuple_of(thing, 3):
        return False
    sent, kept, drawn = thing
    if not are_hourly(sent, [tie_mosts(day, tie) for tie in day[2]]):
        return False
    if not are_hourly(kept, [store_mosts(day, store) for store in day[3]]):
        return False
    return are_within(drawn, [well[2] for well in day[4]])


def comes_at(day, book, place, hour):
    """What comes to a place in an hour: drawn there, sent ahead, and kept behind the hour ahead."""
    sent, kept, drawn = book
    parts = [much for much, well in zip(drawn, day[4]) if well[0] == place and well[1] == hour]
    for row, (begin, end, most, gain, price, late, opens) in zip(sent, day[2]):
        if end == place and late <= hour:
            parts.append(times(row[hour - late], gain))
    for row, (spot, most, keep) in zip(kept, day[3]):
        if spot == place and hour > 0:
            parts.append(times(row[hour - 1], keep))
    return sum_of(parts)


def goes_at(day, book, place, hour):
    """What goes from a place in an hour: sent, or kept behind it."""
    sent, kept, drawn = book
    parts = [row[hour] for row, tie in zip(sent, day[2]) if tie[0] == place]
    parts.extend([row[hour] for row, store in zip(kept, day[3]) if store[0] == place])
    return sum_of(parts)


def wished_in(day, place, hour):
    """All that is wished at a place in an hour."""
    return sum_of([wish[2] for wish in day[5] if wish[0] == place and wish[1] == hour])


def hour_sum(day, book, place, hour, share):
    """What comes to a place in an hour less what goes, share times what is wished there too."""
    left = taken(comes_at(day, book, place, hour), goes_at(day, book, place, hour))
    return taken(left, times(share, wished_in(day, place, hour)))


def adds_up(day, book, share):
    """Whether a thing is a book, and no hour_sum by this share is below 0."""
    if not is_fraction(share) or not is_book(day, book):
        return False
    return all([compared(hour_sum(day, book, place, hour, share), (0, 1)) >= 0
                for place in day[0] for hour in range(day[1])])


def day_price(day, book):
    """The prices times what is sent and drawn, together."""
    sent, kept, drawn = book
    prices = [times(tie[4], sum_of(row)) for tie, row in zip(day[2], sent)]
    prices.extend([times(well[3], much) for well, much in zip(day[4], drawn)])
    return sum_of(prices)
