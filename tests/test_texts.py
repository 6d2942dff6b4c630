"""Promises [1], [2] and [22]: texts of fractions and of nets."""

import re
import unittest
from fractions import Fraction

from gainroads.errors import BadNumber, BadRow, GainError
from gainroads.nets import is_net
from gainroads.texts import fraction_from, fraction_text, net_from, net_text
from helpers import Dice, as_pair, fraction_ok, frozen, great_net, net_ok, some_net

GAINS = [(1, 2), (1, 1), (2, 1), (3, 4), (60, 59), (4, 3)]
NINES = "9" * 40
NET = (("mill", "town", "sea"), (
    ("mill", "town", (4, 1), (1, 2), (1, 1)), ("town", "sea", (3, 1), (2, 1), (1, 3)),
    ("sea", "mill", (0, 1), (60, 59), (0, 1)), ("mill", "town", (4, 1), (1, 2), (1, 1)),
))
TEXT = ("place mill\nplace town\nplace sea\ntie mill town 4 1/2 1\ntie town sea 3 2 1/3\ntie sea mill 0 60/59 0\n"
        "tie mill town 4 1/2 1")


def fraction_of(text):
    """The document's words once more: the fraction that is so written, or None."""
    found = re.fullmatch("(-?)(0|[1-9][0-9]{0,39})(?:/([1-9][0-9]{0,39}))?", text)
    if found is None or found[1] and found[2] == "0" or found[3] == "1":
        return None
    one = (int(found[1] + found[2]), int(found[3] or 1))
    return one if fraction_ok(one) else None


class FractionTexts(unittest.TestCase):

    def test_texts(self):
        for one, text in (((0, 1), "0"), ((1, 1), "1"), ((-1, 1), "-1"), ((1, 2), "1/2"), ((-3, 7), "-3/7"),
                          ((10, 1), "10"), ((100, 101), "100/101"), ((-20, 9), "-20/9"),
                          ((10 ** 9, 999), "1000000000/999"),
                          ((int(NINES), 1), NINES), ((-int(NINES), 10 ** 39), f"-{NINES}/1{'0' * 39}")):
            self.assertEqual(fraction_text(one), text)
            self.assertEqual(frozen(fraction_from(text)), frozen(one))

    def test_of_more_than_forty_figures(self):
        for size in (41, 63, 64, 65, 127, 128, 129, 200, 1000):
            n = 10 ** (size - 1)
            for top in (n, n + 1, 10 * n - 1, n + 10 ** (size // 2)):
                self.assertEqual(fraction_text((top, 1)), str(top))
                self.assertEqual(fraction_text((-top, 1)), f"-{top}")
                self.assertEqual(fraction_text((1, top)), f"1/{top}")

    def test_of_thousands_of_figures(self):
        # More than Python writes at once.
        text = fraction_text((10 ** 6000 + 7, 10 ** 5000))
        self.assertEqual(text, "1" + "0" * 5999 + "7/1" + "0" * 5000)
        self.assertEqual(fraction_text((-(10 ** 6000), 1)), "-1" + "0" * 6000)

    def test_the_very_fraction(self):
        dice = Dice(151)
        for _ in range(300):
            n = dice.roll(10 ** (1 + dice.roll(9))) * 10 ** dice.roll(25) + dice.roll(1000)
            d = 1 + dice.roll(10 ** (1 + dice.roll(9))) * 10 ** dice.roll(25)
            one = as_pair(Fraction((-1) ** dice.roll(2) * n, d))
            self.assertEqual(frozen(fraction_from(fraction_text(one))), frozen(one))


class FractionsFrom(unittest.TestCase):

    def refused(self, text):
        with self.assertRaises(GainError) as caught:
            fraction_from(text)
        self.assertIs(type(caught.exception), BadNumber, text)

    def test_refused(self):
        for text in ("", " ", "-", "+1", "+0", "-0", "00", "01", "-01", "007", "1/02", "01/2", "0/2", "-0/2", "0/1",
                     "2/4", "6/3", "3/3", "1/1", "5/1", "-5/1", "1/0", "0/0", "-1/0", "1/-2", "-1/-2", "1/+2", "--1",
                     "- 1", "1 ", " 1", "1 /2", "1/ 2", "1/2 ", " 1/2", "1 2", "1/", "/", "/2", "-/2", "1//2", "1/2/3",
                     "1/2/", "1.0", "1,5", "1e3", "0x1", "1_000", "one", "a", "1a", "a1", "1/a", "1\n", "\n1", "1/2\n",
                     "\t1", "1-", "1-2", "~", "(1, 2)", "1/00", "1/01", "9-", "0-", "0/", "1\u0660", "\u0661",
                     "\u00b2", "1/\u0662"):
            self.refused(text)

    def test_figures(self):
        for text in (NINES, f"-{NINES}", f"1/{NINES}", f"-1/{NINES}", f"{'9' * 39}8/{NINES}", "1" + "0" * 39):
            one = fraction_from(text)
            self.assertEqual(frozen(one), frozen(fraction_of(text)))
            self.assertEqual(fraction_text(one), text)
        for text in (NINES + "9", f"-{NINES}9", f"1/{NINES}9", f"{NINES}9/2", "1" + "0" * 40, "0" * 41,
                     "1/1" + "0" * 40, "1" * 300, "1" * 5000, f"1/{'1' * 5000}"):
            self.refused(text)

    def test_all_short_texts(self):
        signs = "0129-/ +."
        texts = [""]
        right = 0
        for _ in range(4):
            texts = [text + sign for text in texts for sign in signs]
            for text in texts:
                expected = fraction_of(text)
                if expected is None:
                    self.refused(text)
                else:
                    self.assertEqual(frozen(fraction_from(text)), frozen(expected))
                    self.assertEqual(fraction_text(expected), text)
                    right += 1
        self.assertGreater(right, 150)


class NetTexts(unittest.TestCase):

    def test_by_hand(self):
        self.assertEqual(net_text(NET), TEXT)
        self.assertEqual(frozen(net_from(TEXT)), frozen(NET))

    def test_one_place_and_no_ties(self):
        for places in (("a",), ("abcdefgh",), ("z", "y", "x")):
            text = "\n".join("place " + place for place in places)
            self.assertEqual(net_text((places, ())), text)
            self.assertEqual(frozen(net_from(text)), frozen((places, ())))

    def test_the_very_net(self):
        dice = Dice(152)
        for turn in range(80):
            net = great_net(dice) if turn % 20 == 0 else some_net(dice, 10, 24, GAINS)
            again = net_from(net_text(net))
            self.assertTrue(net_ok(again))
            self.assertEqual(frozen(again), frozen(net))
            self.assertEqual(net_text(again), net_text(net))

    def test_bounds_are_no_matter(self):
        places = tuple(one + other for one in "abcdefghij" for other in "abcdefghij")
        ties = tuple(("aa", place, (10 ** 39, 7), (7, 10 ** 39), (1, 10 ** 39 + 1)) for place in places[1:])
        text = net_text((places, ties))
        self.assertEqual(len(text.split("\n")), 199)
        self.assertEqual(frozen(net_from(text)), frozen((places, ties)))
        # What has more figures can be written, if not read.
        net = (("a", "b"), (("a", "b", (10 ** 41, 1), (1, 1), (0, 1)),))
        self.assertEqual(net_text(net), f"place a\nplace b\ntie a b 1{'0' * 41} 1 0")


class NetsFrom(unittest.TestCase):

    def refused(self, text, row):
        with self.assertRaises(GainError) as caught:
            net_from(text)
        self.assertIs(type(caught.exception), BadRow, text)
        self.assertEqual(frozen(caught.exception.row), frozen(row), text)

    def wrong(self, row):
        """A row that is wrong wherever a tie may stand: first, between and last."""
        self.refused(row, 0)
        rows = TEXT.split("\n")
        for at in range(3, len(rows) + 1):
            self.refused("\n".join(rows[:at] + [row] + rows[at:]), at)

    def test_the_empty_text(self):
        self.refused("", 0)

    def test_empty_rows_and_blanks(self):
        for row in ("", " ", "  ", "\t"):
            self.wrong(row)
        self.refused(TEXT + "\n", 7)
        self.refused("\n" + TEXT, 0)
        self.refused(TEXT.replace("\n", "\n\n", 1), 1)
        self.refused(TEXT.replace("\n", "\r\n"), 0)
        for row in (" place a", "place a ", "place  a", "place\ta", " tie mill sea 1 1 1", "tie mill sea 1 1 1 ",
                    "tie  mill sea 1 1 1", "tie mill sea 1  1 1", "tie mill\tsea 1 1 1"):
            self.wrong(row)
        for row in (" place a", "place a ", "place  a"):
            self.refused("place b\n" + row, 1)

    def test_words_too_many_and_too_few(self):
        for row in ("place", "place a b", "tie", "tie mill", "tie mill sea", "tie mill sea 1", "tie mill sea 1 1",
                    "tie mill sea 1 1 1 1", "tie 1 1 1", "mill", "mill sea 1 1 1", "a"):
            self.wrong(row)
        self.refused("place", 0)
        self.refused("place a b", 0)
        self.refused("place a\nplace", 1)

    def test_other_words(self):
        for row in ("Place a", "PLACE a", "places a", "plac a", "town a", "Tie mill sea 1 1 1", "ties mill sea 1 1 1",
                    "net", "tiemill sea 1 1 1 1", "-"):
            self.wrong(row)
        self.refused("Place a", 0)

    def test_names(self):
        for name in ("A", "aB", "a1", "1", "abcdefghi", "a-b", "a_b", "~", ".", "\u00e4", "a\u00df"):
            self.refused(f"place {name}", 0)
            self.refused(f"place a\nplace b\nplace {name}\nplace c", 2)
            self.wrong(f"tie {name} sea 1 1 1")
            self.wrong(f"tie mill {name} 1 1 1")
        self.assertEqual(net_from("place abcdefgh"), (("abcdefgh",), ()))

    def test_a_place_twice(self):
        self.refused("place a\nplace a", 1)
        self.refused("place a\nplace b\nplace c\nplace b\nplace b", 3)

    def test_a_place_behind_a_tie(self):
        for row in ("place port", "place mill"):
            for at in range(4, 8):
                rows = TEXT.split("\n")
                self.refused("\n".join(rows[:at] + [row] + rows[at:]), at)

    def test_a_tie_of_no_place(self):
        for row in ("tie mill port 1 1 1", "tie port mill 1 1 1", "tie port quay 1 1 1", "tie mill mill 1 1 1",
                    "tie port port 1 1 1"):
            self.wrong(row)
        # A place that only comes behind it isn't there yet.
        self.refused("place a\ntie a b 1 1 1\nplace b", 1)
        self.refused("tie a b 1 1 1\nplace a\nplace b", 0)

    def test_fractions(self):
        for most, gain, price in (("-1", "1", "1"), ("-1/2", "1", "1"), ("1", "0", "1"), ("1", "-1", "1"),
                                  ("1", "-1/60", "1"), ("1", "1", "-1"), ("1", "1", "-1/9")):
            self.wrong(f"tie mill sea {most} {gain} {price}")
        for bad in ("01", "-0", "+1", "2/4", "1/1", "1/0", "1.5", "x", "1/", "/2", "1/2/3", "0/3", "1" * 41,
                    "1/" + "3" * 41):
            for row in (f"tie mill sea {bad} 1 1", f"tie mill sea 1 {bad} 1", f"tie mill sea 1 1 {bad}"):
                self.wrong(row)
        net = net_from("place a\nplace b\ntie a b 0 1/60 0")
        self.assertEqual(net, (("a", "b"), (("a", "b", (0, 1), (1, 60), (0, 1)),)))

    def test_the_first_wrong_row(self):
        rows = TEXT.split("\n") + ["tie mill sea 1 0 1"]
        self.refused("\n".join(rows), 7)
        for at in range(7):
            self.refused("\n".join(rows[:at] + ["no"] + rows[at + 1:]), at)
        self.refused("\n".join(["place " + one + other for one in "abcdefghijklmn" for other in "abcdefghijklmn"]
                               + ["", "no"]), 196)

    def test_one_sign_put_otherwise(self):
        text = "place a\nplace bc\ntie a bc 3/2 1 0"
        right = 0
        for at in range(len(text) + 1):
            for sign in ("", "a", "d", "0", "1", "/", "-", " ", "\n", "A", "~"):
                for other in (text[:at] + sign + text[at:], text[:at] + sign + text[at + 1:]):
                    try:
                        net = net_from(other)
                    except BadRow as refusal:
                        self.assertTrue(0 <= refusal.row < len(other.split("\n")))
                        continue
                    right += 1
                    self.assertIs(is_net(net), True)
                    self.assertEqual(net_text(net), other)
        self.assertGreater(right, 30)


if __name__ == "__main__":
    unittest.main()
