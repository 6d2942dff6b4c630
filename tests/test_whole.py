"""Promises [1] and [2] over the whole program, and the interface: names, arguments, kinds."""

import importlib
import inspect
import os
import re
import unittest

from gainroads import errors
from gainroads.bettering import bettered, bettering, shows_bettering
from gainroads.cheapest import cheapest, price_sum, price_worths, shows_cheapest
from gainroads.daycheck import day_worths, lift_sum, share_worths, shows_cheapest_day, shows_share
from gainroads.dayprice import cheapest_day
from gainroads.dayrun import DayRun
from gainroads.days import adds_up, day_price, hour_sum, is_day
from gainroads.dayshare import day_share
from gainroads.desk import answers
from gainroads.left import left_steps
from gainroads.most import cut_sum, cut_ties, most, most_worths, shows_most
from gainroads.nets import keeps, left_at, price_of
from gainroads.roads import Roads
from gainroads.rounds import gaining_round, greatest_gain, holding_worths, shows_holding
from gainroads.serving import served, served_worths
from gainroads.steps import next_price, price_steps
from gainroads.texts import fraction_from, fraction_text, net_from, net_text
from helpers import (Dice, as_fraction, as_pair, check_own, copied, fraction_ok, frozen, gain_along, great_day,
                     great_net, great_plan, round_ok, some_day, some_net, two_places)

GAINS = [(1, 2), (1, 1), (2, 1), (3, 4), (60, 59), (4, 3)]
FOLDER = os.path.join(os.path.dirname(os.path.abspath(__file__)), "..", "gainroads")
INTERFACE = """
fractions: is_fraction(thing) fraction(n,d) added(one,other) taken(one,other) times(one,other) over(one,other)
    compared(one,other) sum_of(parts) greatest(parts) least(parts)
nets: is_net(thing) ties_from(net,place) ties_to(net,place) is_stream(net,thing) left_at(net,stream,place)
    price_of(net,stream) keeps(net,stream,begin,end)
ways: is_way(net,thing) is_round(net,thing) gain_of(net,way) goes_on(net,way,much) room_of(net,way)
rounds: gaining_round(net) holding_worths(net) shows_holding(net,thing) greatest_gain(net,begin,end)
    best_way(net,begin,end)
left: left_steps(net,stream)
bettering: bettering(net,begin,end,stream) shows_bettering(net,begin,end,stream,thing)
    bettered(net,begin,end,stream,thing)
most: most(net,begin,end) cut_ties(net,worths) cut_sum(net,worths) most_worths(net,begin,end)
    shows_most(net,begin,end,stream,worths)
cheapest: cheapest(net,begin,end,many) price_sum(net,end,many,worths) price_worths(net,begin,end,many)
    shows_cheapest(net,begin,end,many,stream,worths)
steps: price_steps(net,begin,end) next_price(net,begin,end,many)
plans: is_plan(thing) is_sending(plan,thing) count_at(plan,sending,place,stuff) counts_up(plan,share,sending)
serving: served(plan) toll_sum(plan,worths) served_worths(plan) shows_served(plan,share,sending,worths)
days: is_day(thing) is_book(day,thing) hour_sum(day,book,place,hour,share) adds_up(day,book,share) day_price(day,book)
dayshare: day_share(day)
dayprice: cheapest_day(day)
daycheck: lift_sum(day,worths,priced) share_worths(day) day_worths(day) shows_share(day,share,book,worths)
    shows_cheapest_day(day,book,worths)
texts: fraction_text(one) fraction_from(text) net_text(net) net_from(text)
desk: answers(text)
"""
CLASSES = {
    "roads.Roads": """__init__() add_place(name) add_tie(begin,end,most,gain,price) set_most(number,most)
        set_gain(number,gain) set_price(number,price) shut(number) reopen(number) set_ends(begin,end) back() net()
        ends() is_shut(number) deeds() twin() most_now() cheapest_now(many) gaining()""",
    "dayrun.DayRun": """__init__(day) now() stored(place) coming() is_open(number) shut(number) unshut(number)
        pass_hour(sent,kept,drawn) back() book() rest() twin()""",
}


def named(text):
    """Pairs of a name and its arguments."""
    return [(name, args.split(",") if args else []) for name, args in re.findall(r"(\w+)\(([\w,]*)\)", text)]


class Interface(unittest.TestCase):

    def test_functions(self):
        files = re.findall(r"^(\w+): ((?:.+\n(?:    .+\n)*))", INTERFACE, re.MULTILINE)
        self.assertEqual(len(files), 17)
        seen = 0
        for file, text in files:
            module = importlib.import_module("gainroads." + file)
            for name, args in named(text):
                self.assertEqual(list(inspect.signature(getattr(module, name)).parameters), args, (file, name))
                seen += 1
        self.assertEqual(seen, 67)

    def test_classes(self):
        for path, text in CLASSES.items():
            file, name = path.split(".")
            kind = getattr(importlib.import_module("gainroads." + file), name)
            for method, args in named(text):
                told = list(inspect.signature(getattr(kind, method)).parameters)
                self.assertEqual(told, ["self"] + args, (path, method))

    def test_every_refusal_is_told_somewhere(self):
        raised = set()
        for name in os.listdir(FOLDER):
            if name.endswith(".py"):
                with open(os.path.join(FOLDER, name)) as file:
                    raised |= set(re.findall(r"raise (\w+)\(", file.read()))
        kinds = {name for name, kind in vars(errors).items()
                 if inspect.isclass(kind) and issubclass(kind, errors.GainError) and kind is not errors.GainError}
        self.assertEqual(len(kinds), 14)
        self.assertEqual(raised, kinds)

    def test_nothing_is_done_by_clock_chance_or_files(self):
        for name in os.listdir(FOLDER):
            if name.endswith(".py"):
                with open(os.path.join(FOLDER, name)) as file:
                    drawn = re.findall(r"^\s*(?:from|import) (\S+)", file.read(), re.MULTILINE)
                self.assertEqual([some for some in drawn if not some.startswith("gainroads.")], [], name)


class HandedInAgain(unittest.TestCase):
    """What was told may be handed in again, also where it is greater than what else is handed in."""

    def test_streams_and_worths(self):
        dice = Dice(171)
        for _ in range(4):
            net = great_net(dice)
            begin, end = two_places(dice, net)
            value, stream = most(net, begin, end)
            worths = most_worths(net, begin, end)
            self.assertTrue(keeps(net, stream, begin, end))
            self.assertEqual(left_at(net, stream, end), value)
            self.assertEqual(cut_sum(net, worths), value)
            self.assertTrue(all(stream[number] == net[1][number][2] for number in cut_ties(net, worths)))
            self.assertIs(shows_most(net, begin, end, stream, worths), True)
            self.assertIsNone(bettering(net, begin, end, stream))
            self.assertTrue(all(fraction_ok(step[4]) for step in left_steps(net, stream)))
            # A little of it, by numbers of hundreds of figures.
            many = as_pair(as_fraction(value) / (3 ** 300 + 1))
            price, stream = cheapest(net, begin, end, many)
            worths = price_worths(net, begin, end, many)
            self.assertEqual(price_of(net, stream), price)
            self.assertEqual(price_sum(net, end, many, worths), price)
            self.assertIs(shows_cheapest(net, begin, end, many, stream, worths), True)
            if value != (0, 1):
                thing = bettering(net, begin, end, stream)
                self.assertIs(shows_bettering(net, begin, end, stream, thing), True)
                self.assertGreater(as_fraction(left_at(net, bettered(net, begin, end, stream, thing), end)),
                                   as_fraction(many))
                self.assertIsNotNone(next_price(net, begin, end, many))

    def test_steps_of_the_price(self):
        dice = Dice(172)
        for _ in range(30):
            net = some_net(dice, 5, 9, GAINS)
            if len(net[0]) < 2:
                continue
            begin, end = two_places(dice, net)
            steps = price_steps(net, begin, end)
            for many, price in steps:
                self.assertEqual(cheapest(net, begin, end, many)[0], price)
            self.assertEqual(steps[-1][0], most(net, begin, end)[0])

    def test_nets_with_greater_fractions(self):
        # A net of what was told: its mosts are a stream of hundreds of figures.
        dice = Dice(173)
        net = great_net(dice)
        begin, end = two_places(dice, net)
        value, stream = most(net, begin, end)
        tight = (net[0], tuple(tie[:2] + (much,) + tie[3:] for tie, much in zip(net[1], stream)))
        self.assertEqual(most(tight, begin, end)[0], value)
        self.assertEqual(as_fraction(cheapest(tight, begin, end, value)[0]), as_fraction(price_of(net, stream)))
        self.assertEqual(net_text(tight).count("\n"), 33)

    def test_days_of_days(self):
        dice = Dice(174)
        went = 0
        for _ in range(6):
            day = great_day(dice, 10 ** 4)
            if day_share(day)[0] != (1, 1):
                continue
            run = DayRun(day)
            while run.rest() is not None:
                rest = run.rest()
                self.assertIs(is_day(rest), True)
                price, book = cheapest_day(rest)
                self.assertIs(shows_cheapest_day(rest, book, day_worths(rest)), True)
                share, other = day_share(rest)
                self.assertIs(shows_share(rest, share, other, share_worths(rest)), True)
                then = [number for number, well in enumerate(day[4]) if well[1] >= run.now()]
                drawn = [book[2][then.index(number)] if well[1] == run.now() else (0, 1)
                         for number, well in enumerate(day[4])]
                run.pass_hour([row[0] for row in book[0]], [row[0] for row in book[1]], drawn)
                went += 1
            self.assertIs(adds_up(day, run.book(), (1, 1)), True)
            self.assertEqual(day_price(day, run.book()), cheapest_day(day)[0])
        self.assertGreater(went, 20)

    def test_shares_of_any_size(self):
        dice = Dice(175)
        day = great_day(dice)
        share, book = day_share(day)
        small = as_pair(as_fraction(share) / (7 ** 200))
        self.assertIs(adds_up(day, book, small), True)
        for place in day[0]:
            self.assertTrue(fraction_ok(hour_sum(day, book, place, 3, small)))
        worths = [[as_pair(as_fraction(worth) * 7 ** 200) for worth in row] for row in share_worths(day)]
        self.assertTrue(fraction_ok(lift_sum(day, worths, False)))


class Whole(unittest.TestCase):

    def test_desk_roads_and_texts_say_the_same(self):
        dice = Dice(176)
        gaining = 0
        for _ in range(40):
            net = some_net(dice, 6, 12, GAINS)
            if len(net[0]) < 2:
                continue
            begin, end = two_places(dice, net)
            roads = Roads()
            for place in net[0]:
                roads.add_place(place)
            for tie in net[1]:
                roads.add_tie(*tie)
            roads.set_ends(begin, end)
            told = answers(net_text(net) + f"\nends {begin} {end}\nnet\nbrings\nhold\ngreatest {begin} {end}\nsteps")
            self.assertEqual(frozen(net_from(told[0].replace(" | ", "\n"))), frozen(roads.net()))
            self.assertEqual(fraction_from(told[1]), roads.most_now()[0])
            found = gaining_round(net)
            self.assertEqual(frozen(roads.gaining()), frozen(found))
            if found is not None:
                gaining += 1
                self.assertTrue(round_ok(net, found) and gain_along(net, found) > 1)
                self.assertEqual(told[2:4], ["gaining", "gaining"])
            else:
                self.assertEqual([fraction_from(word) for word in told[2].split(" ")], holding_worths(net))
                self.assertIs(shows_holding(net, holding_worths(net)), True)
                best = greatest_gain(net, begin, end)
                self.assertEqual(told[3], "-" if best is None else fraction_text(best))
            steps = [tuple(fraction_from(part) for part in word.split(":")) for word in told[4].split(" ")]
            self.assertEqual(steps, price_steps(net, begin, end))
        self.assertGreater(gaining, 4)

    def test_a_refusal_keeps_nothing_of_the_asker(self):
        net = (("a", "b"), (("a", "b", (1, 1), (2, 1), (0, 1)), ("b", "a", (1, 1), (1, 1), (0, 1))))
        told = []
        for ask in (lambda: holding_worths(net), lambda: greatest_gain(net, "a", "b")):
            for _ in range(2):
                with self.assertRaises(errors.Gaining) as caught:
                    ask()
                told.append(caught.exception.ties)
        told.append(gaining_round(net))
        self.assertEqual(len({id(some) for some in told}), 5)
        for some in told:
            self.assertEqual(sorted(some), [0, 1])
            some.clear()

    def test_the_same_question_is_told_the_same(self):
        dice = Dice(177)
        net, plan, day = great_net(dice), great_plan(dice), some_day(dice, (5, 8, 8, 4, 10, 10), GAINS)
        for ask in (lambda: most(net, "a", "b"), lambda: most_worths(net, "a", "b"), lambda: served(plan),
                    lambda: served_worths(plan), lambda: day_share(day), lambda: share_worths(day),
                    lambda: gaining_round(net), lambda: price_steps(net, "a", "b")):
            check_own(self, ask)

    def test_what_comes_of_a_day_hangs_on_the_day_alone(self):
        dice = Dice(178)
        for _ in range(20):
            day = some_day(dice, (4, 5, 6, 3, 8, 3), GAINS)
            first = frozen(day_share(day))
            run = DayRun(day)
            for number in range(len(day[2])):
                run.shut(number)
            while run.back():
                pass
            self.assertEqual(frozen(day_share(copied(run.rest()))), first)
            self.assertEqual(frozen(day_share(day)), first)


if __name__ == "__main__":
    unittest.main()
