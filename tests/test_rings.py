"""ring: its answers and refusals (points 2 and 3)."""

import itertools
import random
import unittest

import reference
from lines import ask, flat, ladder, many, ring, tiles

HIGHEST = 4294967295
CHECKERS = ((0, 0, 1, 1), (1, 1, 0, 0))


class Answers(unittest.TestCase):
    def test_one_tile_that_fits_everywhere(self):
        found = ask(tiles(0, 0, 0, 0), ring(1), ring(2), ring(3))
        self.assertEqual(found, [[1], [1, 0], [1, 0, 0], [1, 0, 0, 0]])

    def test_checkers_go_round_by_twos_alone(self):
        found = ask(tiles(*flat(CHECKERS)), ring(1), ring(2), ring(3))
        self.assertEqual(found, [[2], [-3], [2, 0, 1, 1, 0], [-3]])

    def test_three_tiles_round(self):
        found = ask(tiles(0, 1, 0, 0, 0, 2, 0, 1, 0, 0, 0, 2), ring(1), ring(2), ring(3))
        self.assertEqual(found, [[3], [-3], [-3], [1, 0, 1, 2]])

    def test_rings_go_from_below_to_above(self):
        found = ask(ladder((0, 1), (1, 2), (2, 0)), ring(1), ring(2))
        self.assertEqual(found, [[3], [3, 0, 1, 2], [3, 0, 0, 1, 1, 2, 2]])
        found = ask(ladder((1, 0), (2, 1), (0, 2)), ring(1), ring(2))
        self.assertEqual(found, [[3], [3, 0, 2, 1], [3, 0, 0, 2, 2, 1, 1]])

    def test_five_rings(self):
        found = ask(ladder((0, 1), (1, 2), (2, 3), (3, 4), (4, 0)), ring(1), ring(3))
        self.assertEqual(found, [[5], [5, 0, 1, 2, 3, 4], [5, 0, 0, 0, 1, 1, 1, 2, 2, 2, 3, 3, 3, 4, 4, 4]])

    def test_two_and_three_come_again_together_after_six(self):
        # the first two follow one another, as do the other three; a ring needs as many of these as of those
        two = ((1, 1, 0, 0), (0, 1, 1, 0))
        three = ((3, 0, 2, 1), (4, 0, 3, 1), (2, 0, 4, 1))
        found = ask(tiles(*flat(two + three)), ring(1), ring(2), ring(3))
        self.assertEqual(found, [[5], [-3], [6, 0, 2, 1, 3, 0, 4, 1, 2, 0, 3, 1, 4], [-3]])

    def test_the_lowest_q_is_before_the_lowest_tile(self):
        self.assertEqual(ask(ladder((0, 1), (1, 0), (5, 5)), ring(1), ring(2)), [[3], [1, 2], [1, 2, 2]])
        self.assertEqual(ask(ladder((2, 3), (3, 4), (4, 2), (0, 1), (1, 0)), ring(1)), [[5], [2, 3, 4]])

    def test_of_as_few_the_first(self):
        self.assertEqual(ask(ladder((0, 1), (1, 0), (1, 0)), ring(1)), [[3], [2, 0, 1]])
        self.assertEqual(ask(ladder((4, 5), (0, 1), (0, 1), (1, 0), (1, 0)), ring(1)), [[5], [2, 1, 3]])
        self.assertEqual(ask(ladder((2, 2), (1, 1), (0, 0)), ring(1), ring(2)), [[3], [1, 0], [1, 0, 0]])

    def test_a_lower_ring_that_makes_the_tower_longer_is_passed_over(self):
        # above tile 0 there fits tile 1 too, but from there it takes one ring more to come again
        self.assertEqual(ask(ladder((0, 1), (1, 2), (1, 0), (2, 0)), ring(1)), [[4], [2, 0, 2]])

    def test_five_tiles_that_all_fit_everywhere(self):
        found = ask(tiles(*[5] * 20), ring(1), ring(2), ring(3))
        self.assertEqual(found, [[5], [1, 0], [1, 0, 0], [1, 0, 0, 0]])


class NoTower(unittest.TestCase):
    def test_no_tiles(self):
        self.assertEqual(ask(ring(1), ring(2), ring(3)), [[-3]] * 3)
        self.assertEqual(ask(tiles(), ring(1), ring(2), ring(3)), [[0]] + [[-3]] * 3)

    def test_rings_that_never_come_again(self):
        self.assertEqual(ask(ladder((0, 1), (1, 2), (2, 3)), ring(1), ring(2), ring(3)), [[3]] + [[-3]] * 3)

    def test_no_rings(self):
        self.assertEqual(ask(tiles(0, 1, 0, 0), ring(1), ring(2), ring(3)), [[1]] + [[-3]] * 3)


class TilesRound(unittest.TestCase):
    def test_just_outside(self):
        for around in (0, 4, 5, 100, HIGHEST):
            self.assertEqual(ask(tiles(0, 0, 0, 0), ring(around), ring(3)), [[1], [-1], [1, 0, 0, 0]])

    def test_of_two_refusals_the_one_told_first(self):
        # there's no tower either, but p is told first
        for around in (0, 4, HIGHEST):
            self.assertEqual(ask(ring(around)), [[-1]])
            self.assertEqual(ask(ladder((0, 1)), ring(around)), [[1], [-1]])

    def test_all_is_as_it_was_then(self):
        found = ask(tiles(*flat(CHECKERS)), ring(1), ring(0), ring(4), ring(2), many(2, 2))
        self.assertEqual(found, [[2], [-3], [-1], [-1], [2, 0, 1, 1, 0], [2]])


class AgainstTheReference(unittest.TestCase):
    def check(self, chosen):
        given = ask(tiles(*flat(chosen)), ring(1), ring(2), ring(3))
        for around in (1, 2, 3):
            tower = reference.fewest_tower(chosen, around)
            wanted = [-3] if tower is None else [len(tower)] + flat(tower)
            self.assertEqual(given[around], wanted, (chosen, around))

    def test_every_two_tiles_of_two_colours(self):
        one = list(itertools.product(range(2), repeat=4))
        for chosen in itertools.product(one, repeat=2):
            self.check(chosen)

    def test_three_to_five_tiles_of_some_colours(self):
        source = random.Random(2)
        for turn in range(400):
            beside = source.choice((1, 2, 2, 3))
            above = source.choice((2, 3, 4, 5))
            spread = (above, beside, above, beside)
            self.check([tuple(source.randrange(most) for most in spread) for tile in range(source.randint(3, 5))])


if __name__ == "__main__":
    unittest.main()
