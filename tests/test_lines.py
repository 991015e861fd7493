"""The interface: the form of what is handed in and given back, and that nothing is changed or kept."""

import builtins
import contextlib
import io
import random
import time
import unittest
from unittest import mock

import reference
import ringagain.tiles
from lines import ask, board, flat, forever, grow, ladder, least, many, ring, tiles, used
from ringagain.tiles import answers

CHECKERS = (0, 0, 1, 1, 1, 1, 0, 0)
HIGHEST = 4294967295


class Form(unittest.TestCase):
    def test_each_answer_with_its_count_before_it(self):
        line = tiles(*CHECKERS) + board(2, 2) + many(3, 3) + ring(2) + ring(1) + board(0, 1) + tiles()
        wanted = [1, 2] + [4, 0, 1, 1, 0] + [1, 2] + [5, 2, 0, 1, 1, 0] + [1, -3] + [1, -1] + [1, 0]
        self.assertEqual(answers(line), wanted)
        line = tiles(*CHECKERS) + least() + forever(2) + used(2) + used(1) + grow(1) + grow(2) + least()
        wanted = [1, 2] + [2, 2, 2] + [2, 2, 2] + [3, 2, 0, 1] + [1, 0] + [1, 4] + [1, -2] + [2, 2, 2]
        self.assertEqual(answers(line), wanted)

    def test_the_numbers_of_the_calls(self):
        wanted = [1, 2, 4, 0, 1, 1, 0, 1, 2, 5, 2, 0, 1, 1, 0, 2, 2, 2, 2, 2, 2, 3, 2, 0, 1, 1, 4]
        line = [0, 8, *CHECKERS, 1, 2, 2, 2, 2, 2, 3, 2, 4, 5, 2, 6, 2, 7, 0]
        self.assertEqual(answers(line), wanted)

    def test_a_refusal_is_its_number_alone(self):
        self.assertEqual(answers([0, 1, 0]), [1, -1])
        self.assertEqual(answers([1, 0, 1]), [1, -1])
        self.assertEqual(answers([1, 1, 1]), [1, -3])
        self.assertEqual(answers([2, 5, 1]), [1, -1])
        self.assertEqual(answers([3, 0]), [1, -1])
        self.assertEqual(answers([3, 1]), [1, -3])
        self.assertEqual(answers([4]), [1, -3])
        self.assertEqual(answers([5, 0]), [1, -1])
        self.assertEqual(answers([6, 4]), [1, -1])
        self.assertEqual(answers([7, 0]), [1, -2])

    def test_a_refused_row_is_passed_over_whole(self):
        # its numbers look like calls, and are none
        self.assertEqual(answers([0, 7, 3, 1, 3, 1, 3, 1, 3, 2, 1, 1]), [1, -1, 1, 0])
        self.assertEqual(answers([0, 28] + [3] * 28 + [3, 1]), [1, -1, 1, -3])
        self.assertEqual(answers([0, 3, 4, 4, 4, 4]), [1, -1, 1, -3])

    def test_a_line_begins_with_no_tiles(self):
        self.assertEqual(ask(many(1, 1), board(1, 1), ring(1)), [[0], [-3], [-3]])
        self.assertEqual(ask(least(), forever(1), used(1), grow(0)), [[-3], [0, 0], [0], [-2]])

    def test_a_line_of_one_call(self):
        self.assertEqual(ask(least()), [[-3]])
        self.assertEqual(ask(forever(2)), [[0, 0]])
        self.assertEqual(ask(used(3)), [[0]])
        self.assertEqual(ask(grow(HIGHEST)), [[-2]])

    def test_twenty_calls(self):
        found = ask(*[tiles(*[1] * 20), board(4, 4), many(4, 4), ring(3)] * 5)
        self.assertEqual(found, [[5], [0] * 16, [5 ** 16], [1, 0, 0, 0]] * 5)

    def test_twenty_longest_calls(self):
        line = tiles(*[4294967295] * 28) * 20
        self.assertEqual(len(line), 600)
        self.assertEqual(answers(line), [1, -1] * 20)

    def test_whole_numbers_in_a_list(self):
        given = answers(tiles(*CHECKERS) + board(2, 2) + many(4, 4) + ring(2) + ring(3) + board(9, 9)
                        + least() + forever(2) + used(2) + grow(1) + grow(2))
        self.assertIs(type(given), list)
        self.assertEqual({type(number) for number in given}, {int})


class AllKinds(unittest.TestCase):
    def test_tiles_handed_in_anew(self):
        found = ask(
            least(), tiles(*CHECKERS), least(), forever(2), used(2), grow(1), board(2, 1), many(4, 4), ring(2),
            ladder((0, 1), (1, 1), (1, 2)), least(), forever(1), used(1), grow(0), grow(2), board(1, 2), many(1, 2),
            ring(1), tiles(), least())
        self.assertEqual(found, [
            [-3], [2], [2, 2], [2, 2], [2, 0, 1], [4], [0, 1], [2], [2, 0, 1, 1, 0],
            [3], [1, 1], [3, 1], [1, 1], [4], [1], [0, 1], [4],
            [1, 1], [0], [-3]])

    def test_refused_tiles_leave_those_before(self):
        for wrong in ((0, 0, 0), (0, 0, 0, 6), (0,) * 24, (0,) * 28, (HIGHEST,) * 4):
            found = ask(
                tiles(*CHECKERS), tiles(*wrong), least(), forever(2), used(2), tiles(*wrong), grow(0), grow(2),
                board(2, 2), many(3, 3), ring(2))
            self.assertEqual(found, [
                [2], [-1], [2, 2], [2, 2], [2, 0, 1], [-1], [4], [-2], [0, 1, 1, 0], [2], [2, 0, 1, 1, 0]])

    def test_refused_calls_between(self):
        found = ask(
            tiles(*CHECKERS), ring(0), least(), forever(4), forever(2), used(HIGHEST), used(2), grow(HIGHEST),
            grow(0), board(5, 1), many(1, 0), ring(1), many(1, 1))
        self.assertEqual(found, [
            [2], [-1], [2, 2], [-1], [2, 2], [-1], [2, 0, 1], [-2], [4], [-1], [-1], [-3], [2]])

    def test_calls_drawn_by_lot_against_the_reference(self):
        source = random.Random(6)
        seen = set()
        for turn in range(1200):
            calls = [self.drawn(source, source.randrange(8)) for call in range(source.randint(1, 19))]
            if source.randrange(4):
                calls.insert(0, self.drawn(source, 0))
            line = [[kind, len(numbers), *numbers] if kind == 0 else [kind, *numbers] for kind, numbers in calls]
            self.assertEqual(ask(*line), reference.answers(calls), line)
            seen.update(kind for kind, numbers in calls)
        self.assertEqual(seen, set(range(8)))

    def drawn(self, source, kind):
        """One call: its number and a list of its numbers; so few tiles that a plain search of all boards ends."""
        if kind == 0:
            length = source.choice((0, 3, 4, 8, 8, 12, 12, 12, 12, 24))
            above = source.choice((2, 3))
            beside = source.choice((1, 2, 2))
            colours = [source.randrange((above, beside)[place % 2]) for place in range(length)]
            if colours and source.randrange(8) == 0:
                colours[source.randrange(length)] = source.choice((6, HIGHEST))
            return kind, colours
        if kind in (1, 2):
            return kind, [source.choice((1, 2, 3, 3, 0, 5)), source.choice((1, 2, 3, 3, HIGHEST))]
        if kind == 4:
            return kind, []
        if kind == 7:
            return kind, [source.choice((0, 0, 1, 2, 3, HIGHEST))]
        return kind, [source.choice((1, 2, 3, 1, 2, 3, 0, 4, HIGHEST))]

    def test_greatest_lines_end_quickly(self):
        begin = time.process_time()
        calls = (board(4, 4), many(4, 4), ring(3), least(), forever(3), used(3), grow(4))
        found = ask(*[tiles(*[3] * 20), *calls] * 2)
        everything = [[5], [0] * 16, [5 ** 16], [1, 0, 0, 0], [1, 1], [125, 125], [5, 0, 1, 2, 3, 4], [4]]
        self.assertEqual(found, everything * 2)
        self.assertLess(time.process_time() - begin, 10)


class Watched(list):
    """A list that fails when it is changed."""

    def refuse(self, *given):
        raise AssertionError("what was handed in is changed")

    append = extend = insert = pop = remove = clear = sort = reverse = refuse
    __setitem__ = __delitem__ = __iadd__ = __imul__ = refuse


class NothingChangedOrKept(unittest.TestCase):
    line = (tiles(*CHECKERS) + board(2, 3) + tiles(9) + many(4, 4) + ring(2) + ring(7) + board(5, 1)
            + least() + forever(2) + used(2) + grow(1) + forever(0) + used(4) + grow(2))

    def test_what_was_handed_in_is_the_same_afterwards(self):
        handed = list(self.line)
        answers(handed)
        self.assertEqual(handed, self.line)

    def test_it_is_not_changed_for_a_while_either(self):
        self.assertEqual(answers(Watched(self.line)), answers(list(self.line)))

    def test_asking_twice_gives_the_same(self):
        first = answers(list(self.line))
        self.assertEqual(answers(list(self.line)), first)

    def test_what_is_given_back_is_a_list_of_its_own(self):
        first = answers(list(self.line))
        kept = list(first)
        first.clear()
        self.assertEqual(answers(list(self.line)), kept)

    def test_no_tiles_are_left_for_the_next_line(self):
        self.assertEqual(ask(tiles(*CHECKERS), many(1, 1)), [[2], [2]])
        self.assertEqual(ask(many(1, 1), board(1, 1), ring(2)), [[0], [-3], [-3]])
        self.assertEqual(ask(least(), forever(2), used(2), grow(0)), [[-3], [0, 0], [0], [-2]])

    def test_the_names_of_the_file_stay_as_they_are(self):
        before = repr(sorted(flat(item for item in vars(ringagain.tiles).items() if item[0].isupper()), key=repr))
        answers(list(self.line))
        after = repr(sorted(flat(item for item in vars(ringagain.tiles).items() if item[0].isupper()), key=repr))
        self.assertEqual(before, after)

    def test_it_prints_nothing(self):
        out = io.StringIO()
        with contextlib.redirect_stdout(out), contextlib.redirect_stderr(out):
            answers(list(self.line))
        self.assertEqual(out.getvalue(), "")

    def test_it_reads_and_imports_nothing(self):
        wanted = answers(list(self.line))
        refused = AssertionError("something is read or imported")
        with contextlib.ExitStack() as patches:
            for name in ("open", "input", "__import__"):
                patches.enter_context(mock.patch.object(builtins, name, side_effect=refused))
            given = answers(list(self.line))
        self.assertEqual(given, wanted)


if __name__ == "__main__":
    unittest.main()
