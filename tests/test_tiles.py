"""tiles: its answer, its refusals (point 1), and that a refusal leaves all as it was."""

import unittest

from lines import ask, board, many, ring, tiles

PLAIN = (0, 0, 0, 0)
HIGHEST = 4294967295


class Answers(unittest.TestCase):
    def test_no_colours_are_no_tiles(self):
        self.assertEqual(ask(tiles()), [[0]])

    def test_one_to_five_tiles(self):
        for number in range(1, 6):
            self.assertEqual(ask(tiles(*PLAIN * number)), [[number]])

    def test_every_colour_from_0_to_5_on_every_side(self):
        for colour in range(6):
            for side in range(4):
                colours = [0, 0, 0, 0]
                colours[side] = colour
                self.assertEqual(ask(tiles(*colours)), [[1]], colours)

    def test_colours_are_up_right_down_left(self):
        # up 1 fits below down 1; right 2 fits ahead of left 2
        line = tiles(1, 2, 3, 4, 5, 5, 1, 5, 5, 5, 5, 2)
        self.assertEqual(ask(line, board(1, 2), board(2, 1)), [[3], [0, 1], [0, 2]])
        self.assertEqual(ask(line, many(1, 2), many(2, 1)), [[3], [1 + 2], [1 + 2]])

    def test_new_tiles_take_the_place_of_the_old(self):
        self.assertEqual(ask(tiles(*PLAIN * 3), many(1, 1), tiles(*PLAIN), many(1, 1)), [[3], [3], [1], [1]])
        self.assertEqual(ask(tiles(*PLAIN), tiles(), many(1, 1), board(1, 1), ring(1)), [[1], [0], [0], [-3], [-3]])


class Refusals(unittest.TestCase):
    def test_a_number_left_over(self):
        for length in range(0, 29):
            wanted = length // 4 if length % 4 == 0 and length <= 20 else -1
            self.assertEqual(ask(tiles(*[0] * length)), [[wanted]], length)

    def test_a_colour_above_5_at_any_place(self):
        for colour in (6, 7, 255, HIGHEST):
            for place in range(20):
                colours = [5] * 20
                colours[place] = colour
                self.assertEqual(ask(tiles(*colours)), [[-1]], (colour, place))

    def test_a_lone_number_left_over_that_is_no_colour(self):
        self.assertEqual(ask(tiles(HIGHEST)), [[-1]])
        self.assertEqual(ask(tiles(*PLAIN, HIGHEST)), [[-1]])

    def test_more_than_five_tiles(self):
        self.assertEqual(ask(tiles(*PLAIN * 5)), [[5]])
        self.assertEqual(ask(tiles(*PLAIN * 6)), [[-1]])
        self.assertEqual(ask(tiles(*PLAIN * 7)), [[-1]])
        self.assertEqual(ask(tiles(*[HIGHEST] * 28)), [[-1]])

    def test_the_tiles_of_before_stay(self):
        wrong = ((0, 0, 0), (0, 0, 0, 6), PLAIN * 6, PLAIN * 7, (0,))
        for colours in wrong:
            found = ask(tiles(*PLAIN * 2), tiles(*colours), many(2, 2), board(2, 1), ring(1))
            self.assertEqual(found, [[2], [-1], [16], [0, 0], [1, 0]], colours)

    def test_none_stay_none(self):
        found = ask(tiles(*PLAIN * 6), many(1, 1), board(1, 1), ring(1))
        self.assertEqual(found, [[-1], [0], [-3], [-3]])


if __name__ == "__main__":
    unittest.main()
