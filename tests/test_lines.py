"""The interface: the form of what is handed in and given back, and that nothing is changed or kept."""

import contextlib
import io
import unittest

import ringagain.tiles
from lines import ask, board, flat, many, ring, tiles
from ringagain.tiles import answers

CHECKERS = (0, 0, 1, 1, 1, 1, 0, 0)


class Form(unittest.TestCase):
    def test_each_answer_with_its_count_before_it(self):
        line = tiles(*CHECKERS) + board(2, 2) + many(3, 3) + ring(2) + ring(1) + board(0, 1) + tiles()
        wanted = [1, 2] + [4, 0, 1, 1, 0] + [1, 2] + [5, 2, 0, 1, 1, 0] + [1, -3] + [1, -1] + [1, 0]
        self.assertEqual(answers(line), wanted)

    def test_a_refusal_is_its_number_alone(self):
        self.assertEqual(answers([0, 1, 0]), [1, -1])
        self.assertEqual(answers([1, 0, 1]), [1, -1])
        self.assertEqual(answers([1, 1, 1]), [1, -3])
        self.assertEqual(answers([2, 5, 1]), [1, -1])
        self.assertEqual(answers([3, 0]), [1, -1])
        self.assertEqual(answers([3, 1]), [1, -3])

    def test_a_refused_row_is_passed_over_whole(self):
        # its numbers look like calls, and are none
        self.assertEqual(answers([0, 7, 3, 1, 3, 1, 3, 1, 3, 2, 1, 1]), [1, -1, 1, 0])
        self.assertEqual(answers([0, 28] + [3] * 28 + [3, 1]), [1, -1, 1, -3])

    def test_a_line_begins_with_no_tiles(self):
        self.assertEqual(ask(many(1, 1), board(1, 1), ring(1)), [[0], [-3], [-3]])

    def test_twenty_calls(self):
        found = ask(*[tiles(*[1] * 20), board(4, 4), many(4, 4), ring(3)] * 5)
        self.assertEqual(found, [[5], [0] * 16, [5 ** 16], [1, 0, 0, 0]] * 5)

    def test_twenty_longest_calls(self):
        line = tiles(*[4294967295] * 28) * 20
        self.assertEqual(len(line), 600)
        self.assertEqual(answers(line), [1, -1] * 20)

    def test_whole_numbers_in_a_list(self):
        given = answers(tiles(*CHECKERS) + board(2, 2) + many(4, 4) + ring(2) + ring(3) + board(9, 9))
        self.assertIs(type(given), list)
        self.assertEqual({type(number) for number in given}, {int})


class Watched(list):
    """A list that fails when it is changed."""

    def refuse(self, *given):
        raise AssertionError("what was handed in is changed")

    append = extend = insert = pop = remove = clear = sort = reverse = refuse
    __setitem__ = __delitem__ = __iadd__ = __imul__ = refuse


class NothingChangedOrKept(unittest.TestCase):
    line = tiles(*CHECKERS) + board(2, 3) + tiles(9) + many(4, 4) + ring(2) + ring(7) + board(5, 1)

    def test_what_was_handed_in_is_the_same_afterwards(self):
        handed = list(self.line)
        answers(handed)
        self.assertEqual(handed, self.line)

    def test_it_is_not_changed_for_a_while_either(self):
        self.assertEqual(answers(Watched(self.line)), answers(list(self.line)))

    def test_asking_twice_gives_the_same(self):
        first = answers(list(self.line))
        self.assertEqual(answers(list(self.line)), first)

    def test_what_is_given_back_is_a_list_of_its_own(self):
        first = answers(list(self.line))
        kept = list(first)
        first.clear()
        self.assertEqual(answers(list(self.line)), kept)

    def test_no_tiles_are_left_for_the_next_line(self):
        self.assertEqual(ask(tiles(*CHECKERS), many(1, 1)), [[2], [2]])
        self.assertEqual(ask(many(1, 1), board(1, 1), ring(2)), [[0], [-3], [-3]])

    def test_the_names_of_the_file_stay_as_they_are(self):
        before = repr(sorted(flat(item for item in vars(ringagain.tiles).items() if item[0].isupper()), key=repr))
        answers(list(self.line))
        after = repr(sorted(flat(item for item in vars(ringagain.tiles).items() if item[0].isupper()), key=repr))
        self.assertEqual(before, after)

    def test_it_prints_nothing(self):
        out = io.StringIO()
        with contextlib.redirect_stdout(out), contextlib.redirect_stderr(out):
            answers(list(self.line))
        self.assertEqual(out.getvalue(), "")


if __name__ == "__main__":
    unittest.main()
