"""grow: its answer and its refusal (point 2)."""

import itertools
import random
import time
import unittest

import reference
from lines import ask, board, flat, grow, ladder, many, tiles

HIGHEST = 4294967295
CHECKERS = ((0, 0, 1, 1), (1, 1, 0, 0))


def grown(chosen):
    """What grow answers for each of these tiles."""
    return flat(ask(tiles(*flat(chosen)), *[grow(tile) for tile in range(len(chosen))])[1:])


def turned(chosen):
    """These tiles with up and right, and down and left, in each other's place."""
    return [(right, up, left, down) for up, right, down, left in chosen]


class Answers(unittest.TestCase):
    def check(self, chosen, wanted):
        # a square has as many tiles up as to the right, so turning all tiles alike changes nothing
        self.assertEqual(grown(chosen), wanted)
        self.assertEqual(grown(turned(chosen)), wanted)

    def test_a_tile_alone_is_a_board(self):
        self.check([(0, 1, 2, 3)], [1])
        self.check([(0, 0, 0, 1)], [1])
        self.check([(0, 0, 1, 0)], [1])

    def test_one_tile_that_fits_everywhere(self):
        self.check([(0, 0, 0, 0)], [4])

    def test_checkers(self):
        self.check(CHECKERS, [4, 4])

    def test_each_fits_above_the_one_before_alone(self):
        stairs = [(step + 1, 0, step, 0) for step in range(5)]
        self.check(stairs[:1], [1])
        self.check(stairs[:2], [2, 1])
        self.check(stairs[:3], [3, 2, 1])
        self.check(stairs[:4], [4, 3, 2, 1])
        self.check(stairs, [4, 4, 3, 2, 1])
        self.check(stairs[::-1], [1, 2, 3, 4, 4])

    def test_the_tile_lies_at_the_left_of_the_lowest_row(self):
        # the first has nothing below or to the left of it, the second nothing above or to the right
        self.check([(0, 0, 1, 0), (2, 0, 0, 0), (0, 0, 0, 0)], [4, 1, 4])
        self.check([(0, 0, 1, 1), (2, 2, 0, 0), (0, 0, 0, 0)], [4, 1, 4])

    def test_up_and_to_the_right_but_not_both(self):
        # the second fits to the right of the first and the third above it, but nothing closes the square
        corner = [(1, 1, 0, 0), (3, 2, 0, 1), (2, 3, 1, 0)]
        self.check(corner, [1, 1, 1])
        self.check(corner + [(4, 4, 3, 3)], [2, 1, 1, 1])
        self.check(corner + [(4, 4, 3, 2), (4, 4, 2, 3)], [1, 1, 1, 1, 1])

    def test_more_than_four_is_four(self):
        self.check([(0, 0, 0, 0), (0, 0, 1, 1)], [4, 4])

    def test_the_tile_itself_not_any(self):
        found = ask(tiles(0, 0, 0, 0, 1, 2, 3, 4), board(4, 4), many(4, 4), grow(0), grow(1))
        self.assertEqual(found, [[2], [0] * 16, [1], [4], [1]])

    def test_five_tiles_that_all_fit_everywhere(self):
        self.check([(3, 3, 3, 3)] * 5, [4] * 5)


class NoSuchTile(unittest.TestCase):
    def test_just_behind_the_last(self):
        for number in range(1, 6):
            line = tiles(*[1] * (4 * number))
            found = ask(line, grow(number - 1), grow(number), grow(number + 1), grow(HIGHEST))
            self.assertEqual(found, [[number], [4], [-2], [-2], [-2]])

    def test_no_tiles(self):
        for tile in (0, 1, 4, 5, HIGHEST):
            self.assertEqual(ask(grow(tile)), [[-2]])
            self.assertEqual(ask(tiles(), grow(tile)), [[0], [-2]])

    def test_tiles_that_are_there_no_more(self):
        found = ask(tiles(*[1] * 12), grow(2), tiles(*[1] * 4), grow(2), grow(0), tiles(), grow(0))
        self.assertEqual(found, [[3], [4], [1], [-2], [4], [0], [-2]])

    def test_all_is_as_it_was_then(self):
        found = ask(ladder((0, 1), (1, 2)), grow(2), grow(HIGHEST), grow(0), grow(1), many(1, 2))
        self.assertEqual(found, [[2], [-2], [-2], [2], [1], [1]])


class AgainstTheReference(unittest.TestCase):
    def check(self, chosen):
        wanted = [reference.grow(chosen, tile) for tile in range(len(chosen))]
        self.assertEqual(grown(chosen), wanted, chosen)

    def test_every_two_tiles_of_two_colours(self):
        one = list(itertools.product(range(2), repeat=4))
        for chosen in itertools.product(one, repeat=2):
            self.check(chosen)

    def test_three_to_five_tiles_of_some_colours(self):
        source = random.Random(5)
        seen = set()
        for turn in range(600):
            colours = source.choice((2, 2, 3, 4))
            chosen = [tuple(source.randrange(colours) for side in range(4)) for tile in range(source.randint(3, 5))]
            self.check(chosen)
            seen.update(grown(chosen))
        self.assertEqual(seen, {1, 2, 3, 4})


class Quick(unittest.TestCase):
    def test_greatest_cases(self):
        begin = time.process_time()
        self.assertEqual(ask(tiles(*[3] * 20), *[grow(4)] * 19), [[5]] + [[4]] * 19)
        # all rows can be laid, but the fourth lies too high
        self.assertEqual(ask(ladder((0, 1), (0, 1), (1, 2), (2, 3), (2, 3)), *[grow(0)] * 19), [[5]] + [[3]] * 19)
        self.assertLess(time.process_time() - begin, 10)


if __name__ == "__main__":
    unittest.main()
