"""A day gone through hour by hour, by deeds, each of which can be taken back."""

from gainroads.days import hour_sum, may_send
from gainroads.errors import AsItIs, Lacking, Over, TooMuch
from gainroads.fractions import added, compared, times
from gainroads.nets import goes_within
from gainroads.roads import check_tie, put_at


def by_hours(day, passed, part, number):
    """What was sent on a tie or kept in a store, as the part says, in each hour, 0 in all hours to come."""
    return [passed[hour][part][number] if hour < len(passed) else (0, 1) for hour in range(day[1])]


def book_of(day, passed):
    """The book of the hours that are passed, 0 in all hours to come."""
    sent = [by_hours(day, passed, 0, number) for number in range(len(day[2]))]
    kept = [by_hours(day, passed, 1, number) for number in range(len(day[3]))]
    drawn = [passed[well[1]][2][number] if well[1] < len(passed) else (0, 1) for number, well in enumerate(day[4])]
    return (sent, kept, drawn)


def under_way(day, passed):
    """The rising list of tuples (hour, place, amount) of what was sent and comes in an hour that isn't passed."""
    amounts = {}
    for hour, (sent, kept, drawn) in enumerate(passed):
        for much, (begin, end, most, gain, price, late, opens) in zip(sent, day[2]):
            if hour + late >= len(passed) and much != (0, 1):
                spot = (hour + late, end)
                amounts[spot] = added(amounts.get(spot, (0, 1)), times(much, gain))
    return sorted([(hour, place, amount) for (hour, place), amount in amounts.items()])


def stored_at(day, passed, place):
    """What is there at a place of what was kept behind the last of the hours that are passed."""
    for number, (spot, most, keep) in enumerate(day[3]):
        if spot == place and len(passed) > 0:
            return times(passed[-1][1][number], keep)
    return (0, 1)


def hour_mosts(day, shuts, now):
    """A tuple of lists: what may be sent on each tie in an hour at most, kept in each store, drawn of each well."""
    sent = [tie[2] if may_send(day, tie, now) and not is_shut else (0, 1) for tie, is_shut in zip(day[2], shuts)]
    kept = [store[1] for store in day[3]]
    drawn = [well[2] if well[1] == now else (0, 1) for well in day[4]]
    return (sent, kept, drawn)


def rest_ties(day, shuts, now):
    """The ties as they are, open in the hours that are left, those that are shut by a deed in none."""
    return tuple([tie[:6] + (tuple([hour - now for hour in tie[6] if hour >= now and not is_shut]),)
                  for tie, is_shut in zip(day[2], shuts)])


def rest_wells(day, passed):
    """The wells of the hours that are left, and one for each thing that is stored or under way."""
    now = len(passed)
    wells = [(place, hour - now, most, price) for place, hour, most, price in day[4] if hour >= now]
    for place in day[0]:
        stored = stored_at(day, passed, place)
        if stored != (0, 1):
            wells.append((place, 0, stored, (0, 1)))
    wells.extend([(place, hour - now, amount, (0, 1)) for hour, place, amount in under_way(day, passed)])
    return tuple(wells)


class DayRun:
    """Goes through a day, from hour 0 on."""

    def __init__(self, day):
        self.day = day
        # How it stood at first and behind each deed, (shuts, passed), all of it tuples that never change: so a deed
        # is taken back by forgetting the last one. Passed are tuples (sent, kept, drawn), one for each hour.
        self.states = [(tuple([False for tie in day[2]]), ())]

    def now(self):
        """The hour; how many there are, behind the last one."""
        return len(self.states[-1][1])

    def stored(self, place):
        """What is there at a place of what was kept behind the hour ahead."""
        return stored_at(self.day, self.states[-1][1], place)

    def coming(self):
        """The rising list of tuples (hour, place, amount) of what is under way."""
        return under_way(self.day, self.states[-1][1])

    def is_open(self, number):
        """Whether a tie is open in this hour; refused with NoTie."""
        check_tie(self.day[2], number)
        return self.now() in self.day[2][number][6] and not self.states[-1][0][number]

    def set_closed(self, number, whether):
        """Shuts a tie from this hour on, or takes that away; refused with NoTie, then with AsItIs."""
        shuts, passed = self.states[-1]
        check_tie(shuts, number)
        if shuts[number] == whether:
            raise AsItIs("the tie is so already")
        self.states.append((put_at(shuts, number, whether), passed))

    def shut(self, number):
        """Lets a tie be open no more, from this hour on; refused with NoTie, then with AsItIs."""
        self.set_closed(number, True)

    def unshut(self, number):
        """Lets a tie be open as the day has it; refused with NoTie, then with AsItIs."""
        self.set_closed(number, False)

    def pass_hour(self, sent, kept, drawn):
        """Goes to the next hour; refused with Over, then with TooMuch, then with Lacking."""
        shuts, passed = self.states[-1]
        if len(passed) == self.day[1]:
            raise Over("the last hour has gone by")
        for amounts, mosts in zip((sent, kept, drawn), hour_mosts(self.day, shuts, len(passed))):
            if not all([goes_within(much, most) for much, most in zip(amounts, mosts)]):
                raise TooMuch("that can't be sent, kept or drawn in this hour")
        fresh = passed + ((tuple(sent), tuple(kept), tuple(drawn)),)
        book = book_of(self.day, fresh)
        for place in self.day[0]:
            if compared(hour_sum(self.day, book, place, len(passed), (1, 1)), (0, 1)) < 0:
                raise Lacking(place)
        self.states.append((shuts, fresh))

    def back(self):
        """Takes the last deed back; whether there was one."""
        if len(self.states) == 1:
            return False
        self.states.pop()
        return True

    def book(self):
        """The book so far, 0 in all hours to come."""
        return book_of(self.day, self.states[-1][1])

    def rest(self):
        """The day that is left, None behind the last hour."""
        shuts, passed = self.states[-1]
        places, hours, ties, stores, wells, wishes = self.day
        now = len(passed)
        if now == hours:
            return None
        left = tuple([(place, hour - now, amount) for place, hour, amount in wishes if hour >= now])
        return (places, hours - now, rest_ties(self.day, shuts, now), stores, rest_wells(self.day, passed), left)

    def twin(self):
        """A DayRun of its own that stands likewise, its deeds too."""
        other = DayRun(self.day)
        other.states = list(self.states)
        return other
