"""board and many: their answers and refusals (points 2 and 3)."""

import itertools
import random
import unittest

import reference
from lines import ask, board, flat, many, tiles

HIGHEST = 4294967295
CHECKERS = ((0, 0, 1, 1), (1, 1, 0, 0))
# each fits above the one before it alone, and all fit to the right of all
STAIRS = ((1, 0, 0, 0), (2, 0, 1, 0), (3, 0, 2, 0))
SIZES = tuple(itertools.product(range(1, 5), repeat=2))
MOST_COUNTED = 3000


class Answers(unittest.TestCase):
    def test_one_tile_that_fits_everywhere(self):
        for wide, high in SIZES:
            found = ask(tiles(0, 0, 0, 0), board(wide, high), many(wide, high))
            self.assertEqual(found, [[1], [0] * (wide * high), [1]])

    def test_checkers(self):
        line = tiles(*flat(CHECKERS))
        self.assertEqual(ask(line, board(2, 2), many(2, 2)), [[2], [0, 1, 1, 0], [2]])
        self.assertEqual(ask(line, board(3, 2), many(3, 2)), [[2], [0, 1, 0, 1, 0, 1], [2]])
        self.assertEqual(ask(line, board(2, 3), many(2, 3)), [[2], [0, 1, 1, 0, 0, 1], [2]])
        self.assertEqual(ask(line, many(4, 4), many(1, 1)), [[2], [2], [2]])

    def test_wide_and_high_are_not_each_other(self):
        line = tiles(*flat(STAIRS))
        self.assertEqual(ask(line, board(1, 3), board(3, 1)), [[3], [0, 1, 2], [0, 0, 0]])
        self.assertEqual(ask(line, many(1, 3), many(3, 1)), [[3], [1], [27]])
        self.assertEqual(ask(line, board(2, 3), board(3, 2)), [[3], [0, 0, 1, 1, 2, 2], [0, 0, 0, 1, 1, 1]])

    def test_rows_go_from_the_lowest_on(self):
        # tile 1 fits above tile 0, and not the other way round
        self.assertEqual(ask(tiles(2, 0, 1, 0, 3, 0, 2, 0), board(1, 2)), [[2], [0, 1]])
        self.assertEqual(ask(tiles(3, 0, 2, 0, 2, 0, 1, 0), board(1, 2)), [[2], [1, 0]])

    def test_places_go_from_the_left(self):
        self.assertEqual(ask(tiles(0, 2, 0, 1, 0, 3, 0, 2), board(2, 1)), [[2], [0, 1]])
        self.assertEqual(ask(tiles(0, 3, 0, 2, 0, 2, 0, 1), board(2, 1)), [[2], [1, 0]])

    def test_the_first_board_leaves_out_a_low_tile_that_comes_to_an_end(self):
        # nothing fits above tile 0, so it can only lie in the highest row
        line = tiles(5, 0, 0, 0, 0, 0, 0, 0)
        self.assertEqual(ask(line, board(2, 1), board(2, 2), board(1, 3)), [[2], [0, 0], [1, 1, 0, 0], [1, 1, 0]])
        # nothing fits to the right of tile 0, so it can only lie at the right
        line = tiles(0, 5, 0, 0, 0, 0, 0, 0)
        self.assertEqual(ask(line, board(1, 2), board(2, 2), board(3, 1)), [[2], [0, 0], [1, 0, 1, 0], [1, 1, 0]])

    def test_five_tiles_that_all_fit_everywhere(self):
        line = tiles(*[3] * 20)
        for wide, high in SIZES:
            found = ask(line, board(wide, high), many(wide, high))
            self.assertEqual(found, [[5], [0] * (wide * high), [5 ** (wide * high)]])
        self.assertEqual(ask(line, many(4, 4)), [[5], [152587890625]])

    def test_many_tells_tiles_of_the_same_colours_apart(self):
        self.assertEqual(ask(tiles(*flat(CHECKERS * 2)), many(1, 1), many(2, 1), many(2, 2)), [[4], [4], [8], [32]])


class NoBoard(unittest.TestCase):
    def test_no_tiles(self):
        for wide, high in SIZES:
            self.assertEqual(ask(board(wide, high), many(wide, high)), [[-3], [0]])
            self.assertEqual(ask(tiles(), board(wide, high), many(wide, high)), [[0], [-3], [0]])

    def test_too_high_or_too_wide_for_the_tiles(self):
        line = tiles(*flat(STAIRS))
        self.assertEqual(ask(line, board(1, 4), many(1, 4), board(4, 4), many(4, 4)), [[3], [-3], [0], [-3], [0]])
        line = tiles(0, 1, 0, 0)
        self.assertEqual(ask(line, board(1, 4), many(1, 4)), [[1], [0, 0, 0, 0], [1]])
        self.assertEqual(ask(line, board(2, 1), many(2, 1)), [[1], [-3], [0]])

    def test_all_is_as_it_was_then(self):
        found = ask(tiles(*flat(STAIRS)), board(1, 4), board(1, 9), many(9, 1), board(1, 3), many(1, 3))
        self.assertEqual(found, [[3], [-3], [-1], [-1], [0, 1, 2], [1]])


class Sizes(unittest.TestCase):
    def test_just_outside(self):
        for wrong in (0, 5, 6, 100, HIGHEST):
            for right in range(1, 5):
                for wide, high in ((wrong, right), (right, wrong), (wrong, wrong)):
                    found = ask(tiles(0, 0, 0, 0), board(wide, high), many(wide, high))
                    self.assertEqual(found, [[1], [-1], [-1]], (wide, high))

    def test_of_two_refusals_the_one_told_first(self):
        # there are no boards either, but the size is told first
        for wide, high in ((0, 1), (1, 0), (5, 4), (4, 5), (0, 0), (HIGHEST, HIGHEST)):
            self.assertEqual(ask(board(wide, high), many(wide, high)), [[-1], [-1]])
            self.assertEqual(ask(tiles(*flat(STAIRS)), board(wide, high)), [[3], [-1]])


class AgainstTheReference(unittest.TestCase):
    def check(self, chosen, sizes):
        for wide, high in sizes:
            # the count is cut short: some sets of tiles have millions of boards
            found = list(itertools.islice(reference.boards(chosen, wide, high), MOST_COUNTED))
            given = ask(tiles(*flat(chosen)), board(wide, high), many(wide, high))
            self.assertEqual(given[1], found[0] if found else [-3], (chosen, wide, high))
            if len(found) < MOST_COUNTED:
                self.assertEqual(given[2], [len(found)], (chosen, wide, high))
            else:
                self.assertGreaterEqual(given[2][0], MOST_COUNTED, (chosen, wide, high))

    def test_every_two_tiles_of_two_colours(self):
        one = list(itertools.product(range(2), repeat=4))
        for chosen in itertools.product(one, repeat=2):
            self.check(chosen, ((1, 1), (2, 1), (1, 2), (2, 2), (3, 2), (2, 3)))

    def test_three_to_five_tiles_of_some_colours(self):
        source = random.Random(1)
        for turn in range(120):
            colours = source.choice((2, 2, 3, 4))
            chosen = [tuple(source.randrange(colours) for side in range(4)) for tile in range(source.randint(3, 5))]
            self.check(chosen, SIZES)


if __name__ == "__main__":
    unittest.main()
