"""Point 13: the borders of daysets, and the runs, from one integer to another."""

import random
import unittest

from everydue.borders import borders_between, many_borders, runs_between
from everydue.tallies import Tally
from tests.plain_sets import plain_in, plain_runs
from tests.some_sets import some_dayset


class BordersTest(unittest.TestCase):

    def test_against_the_words(self):
        chance = random.Random(131)
        for _ in range(500):
            one = some_dayset(chance, 6, 12)
            for _ in range(6):
                begin = chance.randint(-30, 30)
                end = begin + chance.randint(-2, 25)
                borders = [x for x in range(begin, end) if plain_in(one, x) != plain_in(one, x - 1)]
                self.assertEqual(borders_between(one, begin, end), borders, (one, begin, end))
                self.assertEqual(many_borders(one, begin, end), len(borders), (one, begin, end))
                runs = plain_runs([x for x in range(begin, end) if plain_in(one, x)])
                self.assertEqual(tuple(runs_between(one, begin, end)), runs, (one, begin, end))

    def test_numbers_of_integers(self):
        chance = random.Random(132)
        for _ in range(300):
            one = some_dayset(chance, 6, 12)
            tally = Tally(one)
            for x in range(-30, 30):
                self.assertEqual(tally.below(x + 1) - tally.below(x), 1 if plain_in(one, x) else 0, (one, x))
                if plain_in(one, x):
                    self.assertEqual(tally.at(tally.below(x)), x, (one, x))

    def test_far_ranges_are_counted(self):
        one = ((10 ** 9, (1, 4), False), -5, ((-3, 2), (3, 4)), 7, (10 ** 9, (2, 7), True))
        self.assertEqual(many_borders(one, -10 ** 30, 10 ** 30), 4 * 10 ** 21 + 5 - 2)
        self.assertEqual(many_borders(one, 10 ** 30, -10 ** 30), 0)
        self.assertEqual(borders_between(one, 10 ** 30, 10 ** 30 + 8), [10 ** 30 + 2, 10 ** 30 + 7])
        self.assertEqual(runs_between(one, -10 ** 30, 5 - 10 ** 30), [(1 - 10 ** 30, 4 - 10 ** 30)])


if __name__ == "__main__":
    unittest.main()
