"""Texts of fractions and of nets, written and read."""

from gainroads.errors import BadNumber, BadRow
from gainroads.fractions import is_fraction
from gainroads.nets import is_name, is_tie


def figures_of(number):
    """A number from 0 on in plain figures, of whatever size."""
    # By pieces, since Python refuses to write some thousands of figures at once.
    pieces = []
    while number >= 10 ** 64:
        number, piece = divmod(number, 10 ** 64)
        pieces.append(str(piece).zfill(64))
    pieces.append(str(number))
    return "".join(pieces[::-1])


def fraction_text(one):
    """A fraction's text: N, or N/D."""
    sign = "-" if one[0] < 0 else ""
    whole = sign + figures_of(abs(one[0]))
    return whole if one[1] == 1 else f"{whole}/{figures_of(one[1])}"


def are_figures(text, most):
    """Whether a text is a number in at most so many plain figures, no nought ahead but in 0 itself."""
    if not 1 <= len(text) <= most or not all(["0" <= sign <= "9" for sign in text]):
        return False
    return text == "0" or text[0] != "0"


def fraction_or_none(text):
    """The fraction that is so written, None where none is."""
    top, slash, bottom = text.partition("/")
    below = top.startswith("-")
    figures = top[1:] if below else top
    if not are_figures(figures, 40) or below and figures == "0":
        return None
    n = -int(figures) if below else int(figures)
    if slash == "":
        return (n, 1)
    if not are_figures(bottom, 40) or bottom == "1":
        return None
    one = (n, int(bottom))
    return one if is_fraction(one) else None


def fraction_from(text):
    """The fraction that is so written; refused with BadNumber."""
    one = fraction_or_none(text)
    if one is None:
        raise BadNumber("no fraction is so written")
    return one


def tie_row(tie):
    """The row of a tie."""
    begin, end, most, gain, price = tie
    return f"tie {begin} {end} {fraction_text(most)} {fraction_text(gain)} {fraction_text(price)}"


def net_text(net):
    """A net's text: a row for each place, then one for each tie."""
    return "\n".join([f"place {place}" for place in net[0]] + [tie_row(tie) for tie in net[1]])


def is_place_row(words):
    """Whether words are those of a place's row."""
    return len(words) == 2 and words[0] == "place" and is_name(words[1])


def tie_from(words):
    """What the words of a tie's row tell, None in the place of what is no fraction; None where they are none."""
    if len(words) != 6 or words[0] != "tie":
        return None
    return (words[1], words[2]) + tuple([fraction_or_none(word) for word in words[3:]])


def net_from(text):
    """The net of which this is the text; refused with BadRow."""
    places = ()
    ties = ()
    for at, row in enumerate(text.split("\n")):
        words = row.split(" ")
        tie = tie_from(words)
        if is_place_row(words) and words[1] not in places and len(ties) == 0:
            places += (words[1],)
        elif is_tie(places, tie):
            ties += (tie,)
        else:
            raise BadRow(at)
    return (places, ties)
