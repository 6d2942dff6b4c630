"""The climb that the most, the cheapest and the served share rest on, against all corners tried."""

import unittest
from fractions import Fraction

from gainroads.simplex import Table, amounts_of, climb, row_worths
from helpers import Dice, as_fraction, as_pair, corners_of


def aims_of(goals, weights, amounts):
    """What each aim is worth with these amounts."""
    worth = [sum(as_fraction(part) * much for part, much in zip(goal, amounts)) for goal in goals]
    return [sum(as_fraction(weight) * much for weight, much in zip(aim, worth)) for aim in weights]


class Climb(unittest.TestCase):

    def climbed(self, columns, mosts, limits, goals, aims):
        """What each aim comes to, of amounts that keep to the rows; the rows' worths show the first aim."""
        table = Table(columns, mosts, limits, goals)
        climb(table, aims)
        amounts = [as_fraction(much) for much in amounts_of(table)]
        self.assertTrue(all(0 <= much <= as_fraction(most) for much, most in zip(amounts, mosts)))
        for row, (limit, tight) in enumerate(limits):
            spare = as_fraction(limit) - sum(
                as_fraction(column.get(row, (0, 1))) * much for column, much in zip(columns, amounts))
            self.assertTrue(spare == 0 or spare > 0 and not tight)
        reached = aims_of(goals, aims, amounts)
        self.shown(columns, mosts, limits, goals, aims[0], row_worths(table, aims[0]), reached[0])
        return reached

    def shown(self, columns, mosts, limits, goals, weights, worths, reached):
        """No amounts can have more of the aim than what the limits and the mosts are worth."""
        total = Fraction(0)
        for worth, (limit, tight) in zip(worths, limits):
            self.assertTrue(tight or worth[0] >= 0)
            total += as_fraction(worth) * as_fraction(limit)
        for at, (column, most) in enumerate(zip(columns, mosts)):
            gain = sum(as_fraction(weight) * as_fraction(goal[at]) for weight, goal in zip(weights, goals))
            gain -= sum(as_fraction(part) * as_fraction(worths[row]) for row, part in column.items())
            total += max(gain, 0) * as_fraction(most)
        self.assertEqual(total, reached)

    def test_one_that_stands_still_for_long(self):
        # Beale's, on which a climb by the steepest alone may go round for ever.
        columns = [{0: (1, 4), 1: (1, 2)}, {0: (-8, 1), 1: (-12, 1)}, {0: (-1, 1), 1: (-1, 2), 2: (1, 1)},
                   {0: (9, 1), 1: (3, 1)}]
        limits = [((0, 1), False), ((0, 1), False), ((1, 1), False)]
        goal = [(3, 4), (-20, 1), (1, 2), (-6, 1)]
        for mosts in ([(100, 1)] * 4, [(10 ** 9, 1)] * 4):
            for order in ([0, 1, 2, 3], [3, 2, 1, 0], [2, 0, 3, 1]):
                reached = self.climbed([columns[at] for at in order], [mosts[at] for at in order], limits,
                                       [[goal[at] for at in order]], [[(1, 1)]])
                self.assertEqual(reached, [Fraction(5, 4)])

    def test_nothing(self):
        self.assertEqual(self.climbed([], [], [], [[]], [[(1, 1)]]), [0])
        self.assertEqual(self.climbed([], [], [((3, 1), False), ((0, 1), True)], [[]], [[(1, 1)]]), [0])
        self.assertEqual(self.climbed([{}], [(2, 3)], [], [[(5, 1)]], [[(1, 1)]]), [Fraction(10, 3)])
        self.assertEqual(self.climbed([{}], [(2, 3)], [], [[(5, 1)]], [[(-1, 1)]]), [0])

    def test_the_next_aim_decides_where_the_first_is_alike(self):
        columns, mosts, limits = [{0: (1, 1)}, {0: (1, 1)}], [(2, 1), (2, 1)], [((3, 1), False)]
        goals = [[(1, 1), (1, 1)], [(1, 1), (0, 1)]]
        self.assertEqual(self.climbed(columns, mosts, limits, goals, [[(1, 1), (0, 1)], [(0, 1), (1, 1)]]), [3, 2])
        self.assertEqual(self.climbed(columns, mosts, limits, goals, [[(1, 1), (0, 1)], [(0, 1), (-1, 1)]]), [3, -1])

    def test_by_the_dice(self):
        dice = Dice(91)
        for _ in range(120):
            rows, many = 1 + dice.roll(3), 1 + dice.roll(4)
            columns = [{row: as_pair(Fraction(dice.roll(9) - 4, 1 + dice.roll(3)))
                        for row in range(rows) if dice.roll(3)} for _ in range(many)]
            mosts = [as_pair(Fraction(dice.roll(5), 1 + dice.roll(3))) for _ in range(many)]
            limits = [((0, 1), True) if dice.roll(2) else (as_pair(Fraction(dice.roll(4), 1 + dice.roll(2))), False)
                      for _ in range(rows)]
            goals = [[as_pair(Fraction(dice.roll(9) - 4, 1 + dice.roll(4))) for _ in range(many)] for _ in range(2)]
            aims = [[as_pair(Fraction(dice.roll(5) - 2, 3)) for _ in range(2)] for _ in range(2)]
            self.assertEqual(self.climbed(columns, mosts, limits, goals, aims),
                             max(self.all_aims(columns, mosts, limits, goals, aims)))

    def all_aims(self, columns, mosts, limits, goals, aims):
        """The aims of all corners, with an amount more for what is spare in each row that isn't tight."""
        loose = [row for row, (limit, tight) in enumerate(limits) if not tight]
        table = [[as_fraction(column.get(row, (0, 1))) for column in columns]
                 + [Fraction(row == other) for other in loose] for row in range(len(limits))]
        caps = [as_fraction(most) for most in mosts]
        far = Fraction(1000)
        for amounts in corners_of(table, [as_fraction(limit) for limit, tight in limits], caps + [far] * len(loose)):
            yield aims_of(goals, aims, amounts[:len(columns)])


if __name__ == "__main__":
    unittest.main()
