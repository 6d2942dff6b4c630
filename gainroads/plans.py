"""Plans with several stuffs that are turned into one another, and the sendings in them."""

from gainroads.fractions import added, compared, is_above_nought, is_from_nought, is_fraction, sum_of, taken, times
from gainroads.nets import are_names, goes_within


def is_tuple_of(thing, size):
    """Whether a thing is a tuple of so many parts."""
    return isinstance(thing, tuple) and len(thing) == size


def is_plan_tie(places, thing):
    """Whether a thing is a tuple (begin, end, most, gain)."""
    if not is_tuple_of(thing, 4):
        return False
    begin, end, most, gain = thing
    if begin not in places or end not in places or begin == end:
        return False
    return is_from_nought(most) and is_above_nought(gain)


def is_turner(places, stuffs, thing):
    """Whether a thing is a tuple (place, stuff, other, most, gain)."""
    if not is_tuple_of(thing, 5):
        return False
    place, stuff, other, most, gain = thing
    if place not in places or stuff not in stuffs or other not in stuffs or stuff == other:
        return False
    return is_from_nought(most) and is_above_nought(gain)


def is_well(places, stuffs, thing):
    """Whether a thing is a tuple (place, stuff, most)."""
    return is_tuple_of(thing, 3) and thing[0] in places and thing[1] in stuffs and is_from_nought(thing[2])


def is_wish(places, stuffs, thing):
    """Whether a thing is a tuple (place, stuff, amount)."""
    return is_well(places, stuffs, thing) and is_above_nought(thing[2])


def is_plan(thing):
    """Whether a thing is a plan, of whatever size."""
    if not is_tuple_of(thing, 6):
        return False
    places, stuffs, ties, turners, wells, wishes = thing
    if not are_names(places) or not are_names(stuffs):
        return False
    if not all([isinstance(parts, tuple) for parts in (ties, turners, wells, wishes)]):
        return False
    if not all([is_plan_tie(places, tie) for tie in ties]):
        return False
    if not all([is_turner(places, stuffs, turner) for turner in turners]):
        return False
    if not all([is_well(places, stuffs, well) for well in wells]):
        return False
    return all([is_wish(places, stuffs, wish) for wish in wishes])


def are_within(thing, mosts):
    """Whether a thing is a list with a fraction from 0 to its most for each of these mosts."""
    if not isinstance(thing, list) or len(thing) != len(mosts):
        return False
    return all([goes_within(much, most) for much, most in zip(thing, mosts)])


def goes_together(thing, size, most):
    """Whether a thing is a list of so many fractions from 0 on, together not above most."""
    if not isinstance(thing, list) or len(thing) != size or not all([is_from_nought(much) for much in thing]):
        return False
    return compared(sum_of(thing), most) <= 0


def is_sending(plan, thing):
    """Whether a thing is a sending in a plan."""
    if not is_tuple_of(thing, 3):
        return False
    places, stuffs, ties, turners, wells, wishes = plan
    goes, turns, draws = thing
    if not isinstance(goes, list) or len(goes) != len(ties):
        return False
    if not all([goes_together(much, len(stuffs), tie[2]) for much, tie in zip(goes, ties)]):
        return False
    return are_within(turns, [turner[3] for turner in turners]) and are_within(draws, [well[2] for well in wells])


def count_ties(plan, goes, place, stuff):
    """What comes to a place of a stuff by ties less what goes."""
    at = plan[1].index(stuff)
    comes = sum_of([times(much[at], tie[3]) for much, tie in zip(goes, plan[2]) if tie[1] == place])
    leaves = sum_of([much[at] for much, tie in zip(goes, plan[2]) if tie[0] == place])
    return taken(comes, leaves)


def count_turners(plan, turns, place, stuff):
    """What comes at a place of a stuff by turners less what they take in."""
    there = [(much, turner) for much, turner in zip(turns, plan[3]) if turner[0] == place]
    comes = sum_of([times(much, turner[4]) for much, turner in there if turner[2] == stuff])
    leaves = sum_of([much for much, turner in there if turner[1] == stuff])
    return taken(comes, leaves)


def count_at(plan, sending, place, stuff):
    """What comes to a place of a stuff, by ties, turners and wells, less what goes by ties and turners."""
    goes, turns, draws = sending
    drawn = sum_of([much for much, well in zip(draws, plan[4]) if well[0] == place and well[1] == stuff])
    moved = added(count_ties(plan, goes, place, stuff), count_turners(plan, turns, place, stuff))
    return added(moved, drawn)


def wished_at(plan, place, stuff):
    """All that is wished at a place of a stuff."""
    return sum_of([wish[2] for wish in plan[5] if wish[0] == place and wish[1] == stuff])


def counts_up(plan, share, sending):
    """Whether a thing is a sending, and count_at everywhere just share times what is wished."""
    if not is_fraction(share) or not is_sending(plan, sending):
        return False
    return all([count_at(plan, sending, place, stuff) == times(share, wished_at(plan, place, stuff))
                for place in plan[0] for stuff in plan[1]])
