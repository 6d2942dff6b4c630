"""A net that changes by deeds, each of which can be taken back."""

from gainroads.cheapest import cheapest_with_worths
from gainroads.errors import AsItIs, NoEnds, NoPlace, NoTie, Taken
from gainroads.most import most_with_worths
from gainroads.rounds import gaining_round


def put_at(parts, at, part):
    """A tuple with another part at a place."""
    return parts[:at] + (part,) + parts[at + 1:]


def check_two(places, begin, end):
    """Refuses with NoPlace two that aren't both there, or are one."""
    if begin not in places or end not in places:
        raise NoPlace("no such place")
    if begin == end:
        raise NoPlace("both places are one")


def check_tie(ties, number):
    """Refuses with NoTie a number that no tie has."""
    if not 0 <= number < len(ties):
        raise NoTie("no such tie")


class Roads:
    """Places, ties and ends, as deeds made them."""

    def __init__(self):
        # How it stood at first and behind each deed, (places, ties, shuts, ends), all of it tuples that never
        # change: so a deed is taken back by forgetting the last one.
        self.states = [((), (), (), None)]

    def add_place(self, name):
        """Adds a place; refused with Taken."""
        places, ties, shuts, ends = self.states[-1]
        if name in places:
            raise Taken("a place of that name is there")
        self.states.append((places + (name,), ties, shuts, ends))

    def add_tie(self, begin, end, most, gain, price):
        """Adds a tie and tells its number; refused with NoPlace."""
        places, ties, shuts, ends = self.states[-1]
        check_two(places, begin, end)
        self.states.append((places, ties + ((begin, end, most, gain, price),), shuts + (False,), ends))
        return len(ties)

    def set_part(self, number, at, part):
        """Gives a tie another part; refused with NoTie."""
        places, ties, shuts, ends = self.states[-1]
        check_tie(ties, number)
        self.states.append((places, put_at(ties, number, put_at(ties[number], at, part)), shuts, ends))

    def set_most(self, number, most):
        """Gives a tie another most; refused with NoTie."""
        self.set_part(number, 2, most)

    def set_gain(self, number, gain):
        """Gives a tie another gain; refused with NoTie."""
        self.set_part(number, 3, gain)

    def set_price(self, number, price):
        """Gives a tie another price; refused with NoTie."""
        self.set_part(number, 4, price)

    def set_shut(self, number, whether):
        """Shuts a tie, or opens it again; refused with NoTie, then with AsItIs."""
        places, ties, shuts, ends = self.states[-1]
        check_tie(ties, number)
        if shuts[number] == whether:
            raise AsItIs("the tie is so already")
        self.states.append((places, ties, put_at(shuts, number, whether), ends))

    def shut(self, number):
        """Lets nothing go on a tie; refused with NoTie, then with AsItIs."""
        self.set_shut(number, True)

    def reopen(self, number):
        """Takes a tie's being shut away; refused with NoTie, then with AsItIs."""
        self.set_shut(number, False)

    def set_ends(self, begin, end):
        """Sets begin and end; refused with NoPlace."""
        places, ties, shuts, ends = self.states[-1]
        check_two(places, begin, end)
        self.states.append((places, ties, shuts, (begin, end)))

    def back(self):
        """Takes the last deed back; whether there was one."""
        if self.deeds() == 0:
            return False
        self.states.pop()
        return True

    def net(self):
        """The net, a shut tie with a most of 0."""
        places, ties, shuts, ends = self.states[-1]
        return (places, tuple([put_at(tie, 2, (0, 1)) if shut else tie for tie, shut in zip(ties, shuts)]))

    def ends(self):
        """The pair (begin, end), None where no ends are set."""
        return self.states[-1][3]

    def is_shut(self, number):
        """Whether a tie is shut by a deed; refused with NoTie."""
        shuts = self.states[-1][2]
        check_tie(shuts, number)
        return shuts[number]

    def deeds(self):
        """How many deeds can be taken back."""
        return len(self.states) - 1

    def twin(self):
        """A Roads of its own that stands likewise, its deeds too."""
        other = Roads()
        other.states = list(self.states)
        return other

    def both_ends(self):
        """The pair (begin, end); refused with NoEnds."""
        ends = self.ends()
        if ends is None:
            raise NoEnds("no ends are set")
        return ends

    def most_now(self):
        """A tuple (value, stream, worths) of the most; refused with NoEnds."""
        begin, end = self.both_ends()
        return most_with_worths(self.net(), begin, end)

    def cheapest_now(self, many):
        """A tuple (price, stream, worths) of the cheapest; refused with NoEnds, then with NotSoMuch."""
        begin, end = self.both_ends()
        return cheapest_with_worths(self.net(), begin, end, many)

    def gaining(self):
        """The round that gaining_round tells of the net, None without places."""
        net = self.net()
        # Without places it is no net yet.
        return gaining_round(net) if len(net[0]) > 0 else None
