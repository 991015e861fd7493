"""least: its answer and its refusal (point 3)."""

import itertools
import random
import time
import unittest

import reference
from lines import ask, board, flat, ladder, least, many, ring, tiles

CHECKERS = ((0, 0, 1, 1), (1, 1, 0, 0))
# by twos round, and each ring above itself
PAIR = ((5, 3, 5, 4), (5, 4, 5, 3))
# by threes round, and each ring above itself
THREE = ((5, 3, 5, 2), (5, 4, 5, 3), (5, 2, 5, 4))
# one tile round, and two or three rings high
TWO_HIGH = ((1, 0, 0, 0), (0, 0, 1, 0))
THREE_HIGH = ((1, 0, 0, 0), (2, 0, 1, 0), (0, 0, 2, 0))


def heights(chosen):
    """The fewest q for p 1, 2 and 3, or -3."""
    return [found[0] for found in ask(tiles(*flat(chosen)), ring(1), ring(2), ring(3))[1:]]


class Answers(unittest.TestCase):
    def check(self, chosen, high, wanted):
        self.assertEqual(heights(chosen), high)
        self.assertEqual(ask(tiles(*flat(chosen)), least()), [[len(chosen)], wanted])

    def test_one_tile_that_fits_everywhere(self):
        self.check(((0, 0, 0, 0),), [1, 1, 1], [1, 1])

    def test_one_tile_round(self):
        self.check(TWO_HIGH, [2, 2, 2], [1, 2])
        self.check(THREE_HIGH, [3, 3, 3], [1, 3])
        self.assertEqual(ask(ladder((0, 1), (1, 2), (2, 3), (3, 4), (4, 0)), least()), [[5], [1, 5]])

    def test_only_two_round(self):
        self.check(CHECKERS, [-3, 2, -3], [2, 2])
        self.check(PAIR, [-3, 1, -3], [2, 1])

    def test_only_three_round(self):
        self.check(THREE, [-3, -3, 1], [3, 1])

    def test_a_tower_may_be_higher_than_there_are_tiles(self):
        six = ((1, 1, 0, 0), (0, 1, 1, 0), (3, 0, 2, 1), (4, 0, 3, 1), (2, 0, 4, 1))
        self.check(six, [-3, 6, -3], [2, 6])
        nine = ((1, 1, 1, 0), (2, 1, 1, 1), (1, 0, 0, 1), (0, 1, 2, 1), (1, 1, 2, 0))
        self.check(nine, [-3, -3, 9], [3, 9])

    def test_of_the_same_product_the_lowest_p(self):
        # three with the same product would need six rings of one tile, and there are five tiles at most
        self.check(TWO_HIGH + PAIR, [2, 1, 2], [1, 2])
        self.check(PAIR + TWO_HIGH, [2, 1, 2], [1, 2])
        six_tiles_both = ((1, 1, 1, 0), (1, 0, 0, 0), (0, 0, 1, 1), (0, 1, 0, 0), (1, 1, 0, 1))
        self.check(six_tiles_both, [-3, 3, 2], [2, 3])

    def test_a_greater_p_with_the_lower_product(self):
        self.check(THREE_HIGH + PAIR, [3, 1, 3], [2, 1])
        self.check(CHECKERS + THREE, [-3, 2, 1], [3, 1])

    def test_a_greater_p_with_fewer_rings_but_more_tiles(self):
        self.check(TWO_HIGH + THREE, [2, 2, 1], [1, 2])
        three_or_four = ((2, 0, 1, 1), (1, 0, 2, 0), (0, 0, 1, 0), (2, 1, 1, 0), (2, 1, 0, 1))
        self.check(three_or_four, [3, 2, 3], [1, 3])
        eight_or_nine = ((1, 0, 2, 0), (2, 0, 3, 1), (0, 0, 2, 1), (3, 1, 1, 0), (1, 1, 0, 0))
        self.check(eight_or_nine, [-3, 4, 3], [2, 4])


class NoTower(unittest.TestCase):
    def test_no_tiles(self):
        self.assertEqual(ask(least()), [[-3]])
        self.assertEqual(ask(tiles(), least()), [[0], [-3]])

    def test_tiles_that_no_ring_is_made_of(self):
        self.assertEqual(ask(tiles(0, 1, 0, 0), least()), [[1], [-3]])

    def test_rings_that_never_come_again(self):
        self.assertEqual(ask(ladder((0, 1)), least()), [[1], [-3]])
        self.assertEqual(ask(ladder((0, 1), (1, 2), (2, 3), (3, 4), (4, 5)), least()), [[5], [-3]])

    def test_only_four_round(self):
        # the colours at the sides go round by fours, and p goes up to 3
        four = ((0, 1, 0, 0), (0, 2, 0, 1), (0, 3, 0, 2), (0, 0, 0, 3))
        self.assertEqual(ask(tiles(*flat(four)), board(4, 1), least()), [[4], [0, 1, 2, 3], [-3]])

    def test_all_is_as_it_was_then(self):
        found = ask(tiles(0, 1, 0, 0), least(), many(1, 4), tiles(*[2] * 4), least())
        self.assertEqual(found, [[1], [-3], [1], [1], [1, 1]])


class AgainstTheReference(unittest.TestCase):
    def check(self, chosen):
        wanted = reference.least(chosen) or [-3]
        self.assertEqual(ask(tiles(*flat(chosen)), least())[1], wanted, chosen)

    def test_every_two_tiles_of_two_colours(self):
        one = list(itertools.product(range(2), repeat=4))
        for chosen in itertools.product(one, repeat=2):
            self.check(chosen)

    def test_three_to_five_tiles_of_some_colours(self):
        source = random.Random(3)
        for turn in range(400):
            beside = source.choice((1, 2, 2, 3))
            above = source.choice((2, 3, 4, 5))
            spread = (above, beside, above, beside)
            self.check([tuple(source.randrange(most) for most in spread) for tile in range(source.randint(3, 5))])


class Quick(unittest.TestCase):
    def test_greatest_cases(self):
        greatest = (
            [3] * 20,
            # 125 rings of three tiles, hundreds of ways up, and none above itself
            flat(((0, 0, 1, 0), (0, 0, 1, 0), (1, 0, 0, 0), (1, 0, 0, 0), (1, 0, 0, 0))),
            # 125 rings of three tiles, none of which comes again
            flat(((0, 0, 1, 0), (0, 0, 1, 0), (1, 0, 2, 0), (1, 0, 2, 0), (1, 0, 2, 0))),
        )
        begin = time.process_time()
        for colours, wanted in zip(greatest, ([1, 1], [1, 2], [-3])):
            self.assertEqual(ask(tiles(*colours), *[least()] * 19), [[5]] + [wanted] * 19)
        self.assertLess(time.process_time() - begin, 10)


if __name__ == "__main__":
    unittest.main()
