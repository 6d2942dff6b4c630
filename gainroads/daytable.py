"""The table of a day's books: what is sent, kept and drawn, the share that is met, and what is paid."""

from gainroads.days import may_send, store_mosts, tie_mosts, wished_in
from gainroads.simplex import Table, amounts_of, row_worths


def row_at(day, place, hour):
    """The number of the table's row of a place and an hour."""
    return day[0].index(place) * day[1] + hour


def sent_column(day, tie, hour):
    """What goes less what comes, place by place, for each of what is sent on a tie in an hour."""
    if not may_send(day, tie, hour):
        return {}
    begin, end, most, gain, price, late, opens = tie
    return {row_at(day, begin, hour): (1, 1), row_at(day, end, hour + late): (-gain[0], gain[1])}


def kept_column(day, store, hour):
    """What goes less what comes for each of what is kept in a store behind an hour."""
    place, most, keep = store
    column = {row_at(day, place, hour): (1, 1)}
    if hour + 1 < day[1]:
        column[row_at(day, place, hour + 1)] = (-keep[0], keep[1])
    return column


def share_column(day):
    """What goes where all wishes are met."""
    return {row_at(day, place, hour): wished_in(day, place, hour) for place, hour, amount in day[5]}


def day_table(day):
    """The table of a day's books that add up by its last amount; its goals are that share, and the price."""
    places, hours, ties, stores, wells, wishes = day
    columns = [sent_column(day, tie, hour) for tie in ties for hour in range(hours)]
    columns.extend([kept_column(day, store, hour) for store in stores for hour in range(hours)])
    columns.extend([{row_at(day, well[0], well[1]): (-1, 1)} for well in wells])
    columns.append(share_column(day))
    mosts = [most for tie in ties for most in tie_mosts(day, tie)]
    mosts.extend([most for store in stores for most in store_mosts(day, store)])
    mosts.extend([well[2] for well in wells] + [(1, 1)])
    limits = [((0, 1), False) for place in places for hour in range(hours)]
    prices = [tie[4] for tie in ties for hour in range(hours)]
    prices.extend([(0, 1) for store in stores for hour in range(hours)])
    prices.extend([well[3] for well in wells] + [(0, 1)])
    shares = [(0, 1) for column in columns[1:]] + [(1, 1)]
    return Table(columns, mosts, limits, [shares, prices])


def by_hours(amounts, hours):
    """Amounts, as many as there are hours at a time, as lists of their own."""
    return [amounts[at:at + hours] for at in range(0, len(amounts), hours)]


def share_and_book(table, day):
    """A pair (share, book) as a table has them."""
    amounts = amounts_of(table)
    ties = len(day[2]) * day[1]
    stores = ties + len(day[3]) * day[1]
    return (amounts[-1], (by_hours(amounts[:ties], day[1]), by_hours(amounts[ties:stores], day[1]), amounts[stores:-1]))


def worths_in(table, day, weights):
    """What a little more at each place in each hour is worth by the weights of the share and of the price."""
    return by_hours(row_worths(table, weights), day[1])
