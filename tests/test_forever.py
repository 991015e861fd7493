"""forever and used: their answers and refusals (point 2)."""

import itertools
import random
import time
import unittest

import reference
from lines import ask, flat, forever, ladder, many, ring, tiles, used

HIGHEST = 4294967295
CHECKERS = ((0, 0, 1, 1), (1, 1, 0, 0))
# colours down and up of two tiles that lie above themselves
LOOPS = ((1, 1), (2, 2))


class Answers(unittest.TestCase):
    def check(self, line, rings, endless, standing):
        """Ask forever and used for p 1, 2 and 3."""
        found = ask(line, *[forever(around) for around in (1, 2, 3)], *[used(around) for around in (1, 2, 3)])
        self.assertEqual(found[1:4], [list(both) for both in zip(rings, endless)])
        self.assertEqual(found[4:], [[len(row), *row] for row in standing])

    def test_no_tiles(self):
        self.check(tiles(), (0, 0, 0), (0, 0, 0), ((), (), ()))
        self.assertEqual(ask(forever(1), used(1)), [[0, 0], [0]])

    def test_one_tile_that_fits_everywhere(self):
        self.check(tiles(0, 0, 0, 0), (1, 1, 1), (1, 1, 1), ((0,), (0,), (0,)))

    def test_checkers_go_round_by_twos_alone(self):
        self.check(tiles(*flat(CHECKERS)), (0, 2, 0), (0, 2, 0), ((), (0, 1), ()))

    def test_each_turn_of_a_ring_is_a_ring_of_its_own(self):
        line = tiles(0, 1, 0, 0, 0, 2, 0, 1, 0, 0, 0, 2)
        self.check(line, (0, 0, 3), (0, 0, 3), ((), (), (0, 1, 2)))

    def test_rings_that_no_ring_lies_above_or_below(self):
        self.check(ladder((0, 1)), (1, 1, 1), (0, 0, 0), ((), (), ()))

    def test_upwards_but_not_downwards(self):
        self.check(ladder((0, 1), (1, 1)), (2, 4, 8), (1, 1, 1), ((1,), (1,), (1,)))
        # it takes some steps until nothing lies below
        self.check(ladder((0, 1), (1, 2), (2, 3), (3, 3)), (4, 16, 64), (1, 1, 1), ((3,), (3,), (3,)))

    def test_downwards_but_not_upwards(self):
        self.check(ladder((1, 0), (1, 1)), (2, 4, 8), (1, 1, 1), ((1,), (1,), (1,)))
        # it takes some steps until nothing lies above
        self.check(ladder((3, 3), (3, 2), (2, 1), (1, 0)), (4, 16, 64), (1, 1, 1), ((0,), (0,), (0,)))

    def test_one_upwards_alone_and_one_downwards_alone(self):
        self.check(ladder((0, 1), (1, 1), (1, 2)), (3, 9, 27), (1, 1, 1), ((1,), (1,), (1,)))

    def test_neither_way_in_any_number_of_steps(self):
        line = ladder((0, 1), (1, 2), (2, 3), (3, 4), (4, 5))
        self.check(line, (5, 25, 125), (0, 0, 0), ((), (), ()))

    def test_between_two_that_come_again(self):
        everything = (0, 1, 2)
        self.check(ladder(*LOOPS, (1, 2)), (3, 9, 27), (3, 9, 27), (everything,) * 3)
        self.check(ladder((1, 2), *LOOPS), (3, 9, 27), (3, 9, 27), (everything,) * 3)
        # more than one ring between
        everything = (0, 1, 2, 3)
        self.check(ladder((1, 1), (1, 3), (3, 2), (2, 2)), (4, 16, 64), (4, 16, 64), (everything,) * 3)

    def test_rings_that_follow_one_another_round(self):
        # a ring of two of them in step, or out of step, comes again all the same
        self.check(ladder((0, 1), (1, 2), (2, 0)), (3, 9, 27), (3, 9, 27), ((0, 1, 2),) * 3)

    def test_what_lies_above_must_be_a_ring_too(self):
        # each tile can be laid upon for ever, but what lies upon the ring of the first two is no ring
        ahead = ((2, 1, 1, 0), (2, 0, 1, 1), (1, 2, 2, 3))
        self.check(tiles(*flat(ahead)), (0, 2, 0), (0, 0, 0), ((), (), ()))
        self.check(tiles(*flat(ahead), 1, 3, 2, 2), (0, 4, 0), (0, 4, 0), ((), (0, 1, 2, 3), ()))

    def test_used_leaves_out_a_tile_between_others(self):
        self.check(ladder((1, 1), (0, 1), (2, 2), (3, 0), (4, 4)), (5, 25, 125), (3, 9, 27), ((0, 2, 4),) * 3)

    def test_used_differs_from_p_to_p(self):
        # one tile alone, two by twos, and two more by threes together with the first two
        line = tiles(0, 5, 0, 5, 0, 1, 0, 0, 0, 0, 0, 1, 0, 2, 0, 1, 0, 0, 0, 2)
        self.check(line, (1, 3, 4), (1, 3, 4), ((0,), (0, 1, 2), (0, 1, 3, 4)))

    def test_tiles_of_the_same_colours_are_told_apart(self):
        self.check(tiles(*flat(CHECKERS * 2)), (0, 8, 0), (0, 8, 0), ((), (0, 1, 2, 3), ()))

    def test_five_tiles_that_all_fit_everywhere(self):
        everything = (0, 1, 2, 3, 4)
        self.check(tiles(*[3] * 20), (5, 25, 125), (5, 25, 125), (everything,) * 3)


class TilesRound(unittest.TestCase):
    def test_just_outside(self):
        for around in (0, 4, 5, 100, HIGHEST):
            found = ask(tiles(0, 0, 0, 0), forever(around), used(around), forever(3), used(3))
            self.assertEqual(found, [[1], [-1], [-1], [1, 1], [1, 0]], around)

    def test_with_no_tiles(self):
        for around in (0, 4, HIGHEST):
            self.assertEqual(ask(forever(around), used(around)), [[-1], [-1]])
            self.assertEqual(ask(tiles(), used(around), forever(around)), [[0], [-1], [-1]])

    def test_all_is_as_it_was_then(self):
        found = ask(tiles(*flat(CHECKERS)), forever(0), used(4), forever(4), used(0), many(2, 2), ring(2), used(2))
        self.assertEqual(found, [[2], [-1], [-1], [-1], [-1], [2], [2, 0, 1, 1, 0], [2, 0, 1]])


class AgainstTheReference(unittest.TestCase):
    def check(self, chosen):
        for around in (1, 2, 3):
            rings = reference.all_rings(chosen, around)
            endless = reference.endless_rings(chosen, around)
            standing = reference.used(chosen, around)
            found = ask(tiles(*flat(chosen)), forever(around), used(around))
            self.assertEqual(found[1], [len(rings), len(endless)], (chosen, around))
            self.assertEqual(found[2], [len(standing)] + standing, (chosen, around))

    def test_every_two_tiles_of_two_colours(self):
        one = list(itertools.product(range(2), repeat=4))
        for chosen in itertools.product(one, repeat=2):
            self.check(chosen)

    def test_three_to_five_tiles_of_some_colours(self):
        source = random.Random(4)
        for turn in range(200):
            beside = source.choice((1, 2, 2, 3))
            above = source.choice((2, 3, 4, 5))
            spread = (above, beside, above, beside)
            self.check([tuple(source.randrange(most) for most in spread) for tile in range(source.randint(3, 5))])


class Quick(unittest.TestCase):
    def test_greatest_cases(self):
        begin = time.process_time()
        found = ask(tiles(*[3] * 20), *[forever(3)] * 10, *[used(3)] * 9)
        self.assertEqual(found, [[5]] + [[125, 125]] * 10 + [[5, 0, 1, 2, 3, 4]] * 9)
        # one layer of rings is taken away after the other
        found = ask(ladder((0, 1), (1, 2), (2, 3), (3, 4), (4, 5)), *[forever(3)] * 10, *[used(3)] * 9)
        self.assertEqual(found, [[5]] + [[125, 0]] * 10 + [[0]] * 9)
        self.assertLess(time.process_time() - begin, 10)


if __name__ == "__main__":
    unittest.main()
