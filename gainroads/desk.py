"""A desk that goes through the rows of a sheet: deeds of a Roads, and asks."""

from gainroads.errors import AsItIs, BadSheet, Gaining, NoEnds, NoPlace, NotSoMuch, NoTie, Taken
from gainroads.fractions import is_above_nought, is_from_nought
from gainroads.nets import is_name
from gainroads.roads import Roads, check_two
from gainroads.rounds import greatest_gain, holding_worths
from gainroads.steps import price_steps
from gainroads.texts import are_figures, fraction_or_none, fraction_text, net_text


def read_name(word):
    """A NAME, None where it is none."""
    return word if is_name(word) else None


def read_number(word):
    """A number of at most four figures, None where it is none."""
    return int(word) if are_figures(word, 4) else None


def read_from_nought(word):
    """A fraction from 0 on, None where it is none."""
    one = fraction_or_none(word)
    return one if is_from_nought(one) else None


def read_above_nought(word):
    """A fraction above 0, None where it is none."""
    one = fraction_or_none(word)
    return one if is_above_nought(one) else None


def do_place(roads, parts):
    """Adds a place."""
    roads.add_place(parts[0])


def do_tie(roads, parts):
    """Adds a tie."""
    begin, end, most, gain, price = parts
    roads.add_tie(begin, end, most, gain, price)


def do_most(roads, parts):
    """Gives a tie another most."""
    roads.set_most(parts[0], parts[1])


def do_gain(roads, parts):
    """Gives a tie another gain."""
    roads.set_gain(parts[0], parts[1])


def do_price(roads, parts):
    """Gives a tie another price."""
    roads.set_price(parts[0], parts[1])


def do_shut(roads, parts):
    """Shuts a tie."""
    roads.shut(parts[0])


def do_open(roads, parts):
    """Opens a shut tie again."""
    roads.reopen(parts[0])


def do_ends(roads, parts):
    """Sets begin and end."""
    roads.set_ends(parts[0], parts[1])


def do_back(roads, parts):
    """Takes the last deed back, and says where there is none."""
    return None if roads.back() else "nothing"


def texts_together(texts):
    """Texts parted by one blank, a dash for none."""
    return " ".join(texts) if len(texts) > 0 else "-"


def tell_brings(roads, parts):
    """The most's value."""
    value, stream, worths = roads.most_now()
    return fraction_text(value)


def tell_cheapest(roads, parts):
    """The lowest price of so many, or how many can be brought."""
    try:
        price, stream, worths = roads.cheapest_now(parts[0])
    except NotSoMuch as refusal:
        return f"at most {fraction_text(refusal.most)}"
    return fraction_text(price)


def tell_steps(roads, parts):
    """The steps of the price."""
    begin, end = roads.both_ends()
    steps = price_steps(roads.net(), begin, end)
    return texts_together([f"{fraction_text(many)}:{fraction_text(price)}" for many, price in steps])


def tell_hold(roads, parts):
    """The worths that hold every tie."""
    net = roads.net()
    try:
        # Without places it is no net yet.
        worths = holding_worths(net) if len(net[0]) > 0 else []
    except Gaining:
        return "gaining"
    return texts_together([fraction_text(worth) for worth in worths])


def tell_greatest(roads, parts):
    """The greatest gain of a way between two places."""
    net = roads.net()
    begin, end = parts
    check_two(net[0], begin, end)
    try:
        gain = greatest_gain(net, begin, end)
    except Gaining:
        return "gaining"
    return "-" if gain is None else fraction_text(gain)


def tell_net(roads, parts):
    """The net's text in one row."""
    net = roads.net()
    return net_text(net).replace("\n", " | ") if len(net[0]) > 0 else "-"


def tell_ends(roads, parts):
    """Both ends."""
    ends = roads.ends()
    return "-" if ends is None else texts_together(list(ends))


# What the words behind a row's first one are to be, by that one and by how many they are.
FORMS = {
    ("place", 1): ("name",),
    ("tie", 5): ("name", "name", "from nought", "above nought", "from nought"),
    ("most", 2): ("number", "from nought"),
    ("gain", 2): ("number", "above nought"),
    ("price", 2): ("number", "from nought"),
    ("shut", 1): ("number",),
    ("open", 1): ("number",),
    ("ends", 2): ("name", "name"),
    ("back", 0): (),
    ("brings", 0): (),
    ("cheapest", 1): ("from nought",),
    ("steps", 0): (),
    ("hold", 0): (),
    ("greatest", 2): ("name", "name"),
    ("net", 0): (),
    ("ends", 0): (),
}

READERS = {
    "name": read_name,
    "number": read_number,
    "from nought": read_from_nought,
    "above nought": read_above_nought,
}

DEEDS = {
    ("place", 1): do_place,
    ("tie", 5): do_tie,
    ("most", 2): do_most,
    ("gain", 2): do_gain,
    ("price", 2): do_price,
    ("shut", 1): do_shut,
    ("open", 1): do_open,
    ("ends", 2): do_ends,
    ("back", 0): do_back,
    ("brings", 0): tell_brings,
    ("cheapest", 1): tell_cheapest,
    ("steps", 0): tell_steps,
    ("hold", 0): tell_hold,
    ("greatest", 2): tell_greatest,
    ("net", 0): tell_net,
    ("ends", 0): tell_ends,
}


def read_row(at, row):
    """A pair (form, parts) of what a row says; refused with BadSheet."""
    words = row.split(" ")
    form = (words[0], len(words) - 1)
    if form not in FORMS:
        raise BadSheet(at)
    parts = []
    for kind, word in zip(FORMS[form], words[1:]):
        reader = READERS[kind]
        part = reader(word)
        if part is None:
            raise BadSheet(at)
        parts.append(part)
    return (form, parts)


def answer_of(roads, form, parts):
    """What is answered to a row, None where nothing is told."""
    deed = DEEDS[form]
    try:
        return deed(roads, parts)
    except Taken:
        return "refused Taken"
    except NoPlace:
        return "refused NoPlace"
    except NoTie:
        return "refused NoTie"
    except AsItIs:
        return "refused AsItIs"
    except NoEnds:
        return "refused NoEnds"


def answers(text):
    """The list of what is told and answered to the rows of a sheet; refused with BadSheet."""
    rows = [read_row(at, row) for at, row in enumerate(text.split("\n")) if row != ""]
    roads = Roads()
    told = []
    for form, parts in rows:
        answer = answer_of(roads, form, parts)
        if answer is not None:
            told.append(answer)
    return told
