"""Promises [1], [2] and [23]: the desk and its sheets."""

import re
import unittest
from fractions import Fraction

from gainroads.cheapest import cheapest
from gainroads.desk import answers
from gainroads.errors import AsItIs, BadSheet, GainError, Gaining, NoEnds, NoPlace, NotSoMuch, NoTie, Taken
from gainroads.most import most
from gainroads.roads import Roads
from gainroads.rounds import greatest_gain, holding_worths
from gainroads.steps import price_steps
from gainroads.texts import fraction_from, fraction_text, net_from, net_text
from helpers import Dice, as_pair, check_own, frozen, great_net

ASKS = ("brings", "cheapest 0", "steps", "hold", "greatest a b", "net", "ends")
BUILD = "place a\nplace b\nplace c\ntie a b 4 1/2 1\ntie b c 3 2 1/3\nends a c"


class Desk(unittest.TestCase):

    def told(self, text, *expected):
        self.assertEqual(frozen(answers(text)), frozen(list(expected)), text)

    def refused(self, text, row):
        for _ in range(2):
            with self.assertRaises(GainError) as caught:
                answers(text)
            self.assertIs(type(caught.exception), BadSheet, text)
            self.assertEqual(frozen(caught.exception.row), frozen(row), text)


class Sheets(Desk):

    def test_without_rows(self):
        for text in ("", "\n", "\n\n\n\n"):
            self.told(text)

    def test_deeds_tell_nothing(self):
        self.told(BUILD)
        self.told(BUILD + "\nmost 0 5\ngain 1 1/2\nprice 0 0\nshut 1\nopen 1\nends c a\nback")

    def test_empty_rows(self):
        self.told("\n\nplace a\n\n\nnet\n\n", "place a")

    def test_by_hand(self):
        self.told(BUILD + "\nbrings\ncheapest 3\nsteps\nhold\ngreatest a c\ngreatest c a\nnet\nends",
                  "4", "7/2", "0:0 4:14/3", "1 2 1", "1", "-",
                  "place a | place b | place c | tie a b 4 1/2 1 | tie b c 3 2 1/3", "a c")

    def test_each_ask_as_it_stands(self):
        self.told("net\nplace a\nnet\nplace b\nnet\ntie a b 1 1 1\nnet\nends\nends a b\nends\nbrings\nmost 0 7/2\n"
                  "brings\ngain 0 2\nbrings\nshut 0\nbrings\nnet\nopen 0\nbrings\nprice 0 5\ncheapest 2\nback\n"
                  "cheapest 2",
                  "-", "place a", "place a | place b", "place a | place b | tie a b 1 1 1", "-", "a b", "1", "7/2", "7",
                  "0", "place a | place b | tie a b 0 2 1", "7", "5", "1")

    def test_all_asks_without_places(self):
        self.told("\n".join(ASKS), *["refused NoEnds"] * 3, "-", "refused NoPlace", "-", "-")

    def test_all_asks_without_ends(self):
        self.told("place b\nplace a\n" + "\n".join(ASKS), *["refused NoEnds"] * 3, "1 1", "-", "place b | place a", "-")

    def test_asks_without_ties(self):
        self.told("place b\nplace a\nends b a\n" + "\n".join(ASKS) + "\ncheapest 1/9", "0", "0", "0:0", "1 1", "-",
                  "place b | place a", "b a", "at most 0")

    def test_one_place(self):
        self.told("place a\nhold\nnet\nends\ngreatest a a", "1", "place a", "-", "refused NoPlace")

    def test_gaining(self):
        round_too = BUILD + "\ntie c a 1 4/3 0\n"
        self.told(round_too + "hold\ngreatest a b\ngreatest a d\ngreatest a a\nbrings\nshut 2\nhold\ngreatest a b",
                  "gaining", "gaining", "refused NoPlace", "refused NoPlace", "4", "1 2 1", "1/2")
        self.told(round_too + "gain 2 1\nhold", "1 2 1")
        # A round that nothing leads to is one too.
        self.told("place a\nplace b\nplace c\nplace d\ntie a b 1 1 1\ntie c d 1 2 1\ntie d c 1 1 1\ngreatest a b",
                  "gaining")

    def test_greatest(self):
        self.told(BUILD + "\ngreatest a b\ngreatest b c\ngreatest a c\ngreatest b a\ngreatest d a\ngreatest a d\n"
                  "greatest d d\ngreatest a a", "1/2", "2", "1", "-", *["refused NoPlace"] * 4)

    def test_many_at_just_the_most_and_above_it(self):
        self.told(BUILD + "\ncheapest 0\ncheapest 4\ncheapest 41/10\ncheapest 5\ncheapest " + "9" * 40,
                  "0", "14/3", "at most 4", "at most 4", "at most 4")
        self.told(BUILD + "\nmost 0 1/3\ncheapest 1/3\ncheapest 3333333333333333333333333333333333333334/"
                  "9999999999999999999999999999999999999999", "7/18", "at most 1/3")

    def test_steps(self):
        self.told("place a\nplace b\ntie a b 2 1 1\ntie a b 1 3 0\ntie a b 1 1/2 1/2\nends a b\nsteps",
                  "0:0 3:0 11/2:5/2")

    def test_back(self):
        self.told("back", "nothing")
        self.told("back\nback\nplace a\nback\nback\nnet", "nothing", "nothing", "nothing", "-")
        self.told(BUILD + "\nback\nends\nback\nback\nnet\nends a c\nbrings", "-", "place a | place b | place c", "0")
        self.told(BUILD + "\nback" * 7 + "\nnet", "nothing", "-")

    def test_deeds_refused_between_others(self):
        self.told("place a\nplace a\nplace b\ntie a c 1 1 1\ntie a a 1 1 1\nends a c\nends b b\nmost 0 1\ngain 0 1\n"
                  "price 0 1\nshut 0\nopen 0\ntie a b 1 1 1\nopen 0\nshut 0\nshut 0\nshut 1\nnet\nback\nnet\nback\nnet",
                  "refused Taken", *["refused NoPlace"] * 4, *["refused NoTie"] * 5, "refused AsItIs", "refused AsItIs",
                  "refused NoTie", "place a | place b | tie a b 0 1 1", "place a | place b | tie a b 1 1 1",
                  "place a | place b")

    def test_numbers(self):
        self.told(BUILD + "\nshut 0\nshut 1\nshut 2\nshut 10\nshut 9999\nnet", *["refused NoTie"] * 3,
                  "place a | place b | place c | tie a b 0 1/2 1 | tie b c 0 2 1/3")

    def test_a_shut_tie_keeps_its_most(self):
        self.told(BUILD + "\nshut 0\nmost 0 1\nbrings\nopen 0\nbrings\nopen 0", "0", "1", "refused AsItIs")

    def test_ends_is_a_deed_or_an_ask(self):
        self.told(BUILD + "\nends\nends c b\nends\nends c d\nends", "a c", "c b", "refused NoPlace", "c b")


class Wrong(Desk):

    def wrong(self, row):
        """A row that is wrong wherever it stands, whatever is there."""
        self.refused(row, 0)
        self.refused("net\n" + row + "\nnet", 1)
        self.refused("\n\n" + row, 2)
        self.refused(BUILD + "\n" + row, 6)
        self.refused(row + "\nno", 0)

    def test_words(self):
        for row in ("no", "Place a", "places a", "PLACE a", "net.", "brings?", "-", "place:a", "reopen 0", "unshut 0",
                    "add_place a", "greatest_gain a b", "placea", "tell net", "ends-a-b", "1", "#", "~"):
            self.wrong(row)

    def test_words_too_many_and_too_few(self):
        for row in ("place", "place a b", "tie", "tie a b 1 1", "tie a b 1 1 1 1", "most", "most 0", "most 0 1 1",
                    "most 1", "gain 0", "gain 0 1 1", "price 0", "price 0 1 1", "shut", "shut 0 0", "open",
                    "open 0 1", "ends a", "ends a b c", "back 1", "back a", "brings 1", "brings a b", "cheapest",
                    "cheapest 1 1", "steps a b", "hold a", "greatest", "greatest a", "greatest a b c", "net a",
                    "net 0"):
            self.wrong(row)

    def test_blanks(self):
        for row in (" ", "  ", " net", "net ", "  net", "place  a", " place a", "place a ", "tie a  b 1 1 1", "back ",
                    "most 0  1", "ends ", "ends a b ", " ends a b", "\tnet", "net\t", "place\ta"):
            self.wrong(row)

    def test_names(self):
        for name in ("A", "a1", "1", "abcdefghi", "a_b", "a-", "-", "aB", "\u00e4"):
            for row in (f"place {name}", f"tie {name} b 1 1 1", f"tie a {name} 1 1 1", f"ends {name} b",
                        f"ends a {name}", f"greatest {name} b", f"greatest a {name}"):
                self.wrong(row)
        self.told("place abcdefgh\nnet", "place abcdefgh")

    def test_numbers(self):
        for number in ("-1", "-0", "+1", "00", "01", "0001", "10000", "12345", "1.0", "1/2", "x", "a", "1a", "\u0661",
                       "\u00b2"):
            for row in (f"most {number} 1", f"gain {number} 1", f"price {number} 1", f"shut {number}",
                        f"open {number}"):
                self.wrong(row)

    def test_fractions(self):
        for bad in ("01", "-0", "+1", "2/4", "1/1", "5/1", "1/0", "0/2", "1.5", "x", "1/", "/2", "1/2/3", "1" * 41,
                    "1/" + "3" * 41, "-1", "-1/2", "-0/1", "--1"):
            for row in (f"tie a b {bad} 1 1", f"tie a b 1 {bad} 1", f"tie a b 1 1 {bad}", f"most 0 {bad}",
                        f"gain 0 {bad}", f"price 0 {bad}", f"cheapest {bad}"):
                self.wrong(row)
        for row in ("tie a b 1 0 1", "gain 0 0"):
            self.wrong(row)
        for row in ("tie a b 0 1 0", "most 0 0", "price 0 0"):
            self.told(row, "refused NoPlace" if row[0] == "t" else "refused NoTie")

    def test_the_last_row(self):
        self.refused(BUILD + "\nnet\n\n\nbrings\nnet ", 10)
        self.refused("\n" * 150 + "net net", 150)

    def test_the_first_of_several(self):
        self.refused("net\n\nno\nplace\n ", 2)

    def test_whether_they_are_there_is_no_matter(self):
        self.told("tie x y 1 1 1\nends x y\ngreatest x y\nshut 17\nmost 9999 1", "refused NoPlace", "refused NoPlace",
                  "refused NoPlace", "refused NoTie", "refused NoTie")


def by_roads(rows):
    """What a Roads, gone through the same rows, and the functions tell."""
    roads = Roads()
    told = []
    for row in rows:
        word, *rest = row.split(" ")
        try:
            answer = one_row(roads, word, rest)
        except (Taken, NoPlace, NoTie, AsItIs, NoEnds) as refusal:
            answer = "refused " + type(refusal).__name__
        except NotSoMuch as refusal:
            answer = "at most " + fraction_text(refusal.most)
        except Gaining:
            answer = "gaining"
        if answer is not None:
            told.append(answer)
    return told


def one_row(roads, word, rest):
    net = roads.net()
    if word == "back":
        return None if roads.back() else "nothing"
    if word == "ends" and not rest:
        return " ".join(roads.ends()) if roads.ends() else "-"
    if word == "net":
        return net_text(net).replace("\n", " | ") if net[0] else "-"
    if word == "hold":
        return " ".join(map(fraction_text, holding_worths(net))) if net[0] else "-"
    if word == "greatest":
        if rest[0] == rest[1] or not set(rest) <= set(net[0]):
            return "refused NoPlace"
        gain = greatest_gain(net, *rest)
        return "-" if gain is None else fraction_text(gain)
    if word in ("brings", "cheapest", "steps"):
        if roads.ends() is None:
            return "refused NoEnds"
        if word == "steps":
            return " ".join(fraction_text(many) + ":" + fraction_text(price)
                            for many, price in price_steps(net, *roads.ends()))
        return fraction_text(most(net, *roads.ends())[0] if word == "brings"
                             else cheapest(net, *roads.ends(), fraction_from(rest[0]))[0])
    deeds = {"place": "add_place", "tie": "add_tie", "most": "set_most", "gain": "set_gain", "price": "set_price",
             "shut": "shut", "open": "reopen", "ends": "set_ends"}
    given = [part if re.fullmatch("[a-z]+", part) else fraction_from(part) for part in rest]
    if word in ("most", "gain", "price", "shut", "open"):
        given[0] = int(rest[0])
    getattr(roads, deeds[word])(*given)
    return None


def some_row(dice):
    place, other, number = dice.one_of("abcde"), dice.one_of("abcde"), dice.roll(7)
    one = fraction_text(as_pair(Fraction(dice.roll(7), 1 + dice.roll(3))))
    gain = dice.one_of(("1/2", "1", "2", "3/4", "60/59", "4/3"))
    tie = f"tie {place} {other} {one} {gain} {dice.roll(4)}"
    return dice.one_of([
        "", f"place {place}", tie, tie, tie, tie, f"most {number} {one}", f"gain {number} {gain}",
        f"price {number} {one}", f"shut {number}", f"open {number}", f"ends {place} {other}", "back", "brings",
        f"cheapest {one}", "steps", "hold", f"greatest {place} {other}", "net", "ends"])


class ByTheDice(Desk):

    def test_as_a_roads_tells(self):
        dice = Dice(161)
        seen = {}
        for turn in range(150):
            rows = ["place a", "place b", "place c", "ends a b"][:turn % 5] + [some_row(dice) for _ in range(80)]
            told = answers("\n".join(rows))
            self.assertEqual(told, by_roads([row for row in rows if row]))
            self.assertTrue(all(type(some) is str for some in told))
            for some in told:
                kind = " ".join(some.split(" ")[:2]) if some.startswith(("refused", "at most")) else some[:7]
                seen[kind] = seen.get(kind, 0) + 1
        for kind in ("refused Taken", "refused NoPlace", "refused NoTie", "refused AsItIs", "refused NoEnds", "at most",
                     "gaining", "nothing", "-"):
            self.assertGreater(seen.get(kind, 0), 10, kind)

    def test_at_the_bounds(self):
        dice = Dice(162)
        for _ in range(3):
            net = great_net(dice)
            value = most(net, "a", "j")[0]
            text = net_text(net) + f"\nends a j\nbrings\nnet\nsteps\nhold\ncheapest {value[0] // value[1] // 2}"
            told = answers(text)
            self.assertEqual(told, by_roads(text.split("\n")))
            self.assertEqual(told[0], fraction_text(value))
            self.assertEqual(net_from(told[1].replace(" | ", "\n")), net)

    def test_two_hundred_rows(self):
        text = BUILD + "\n" + "\n".join(["shut 0", "open 0"] * 94 + ["brings"] + ["back"] * 5)
        self.assertEqual(len(text.split("\n")), 200)
        self.told(text, "4")


class Own(Desk):

    def test_what_is_told(self):
        for text in ("", BUILD, BUILD + "\nbrings\nsteps\nhold\nnet\nback\nends"):
            check_own(self, lambda: answers(text))

    def test_nothing_is_kept(self):
        self.told(BUILD + "\nnet", "place a | place b | place c | tie a b 4 1/2 1 | tie b c 3 2 1/3")
        self.told("net\nends", "-", "-")


if __name__ == "__main__":
    unittest.main()
