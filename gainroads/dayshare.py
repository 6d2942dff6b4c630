"""The greatest share of a day's wishes that can be met."""

from gainroads.daytable import day_table, share_and_book
from gainroads.simplex import climb

# The share counts, the price doesn't.
SHARE = ((1, 1), (0, 1))


def share_table(day):
    """A day's table where the share is the greatest."""
    table = day_table(day)
    climb(table, [SHARE])
    return table


def day_share(day):
    """A pair (share, book), the greatest share from 0 to 1 by which a book adds up, and one."""
    return share_and_book(share_table(day), day)
