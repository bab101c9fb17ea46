"""The interface: how calls and answers stand in their lists, and that nothing is changed or kept."""

import unittest
from random import Random

from seamless.pages import answers
from tests.helper import (CELLS, EDGE, GREATEST, Model, ask, cell, fill, grid_cells, hole, off, page, patch,
                          raw_hole, solve, some_line)

LINE = (page(3, 1, [10, 20, 50]) + patch([0, 90, 0]) + hole([(1, 0)]) + solve(1) + cell(1, 1, 0) + solve(7)
        + off(1, [100]) + fill(1) + EDGE + CELLS)
TOLD = [1, 0, 1, 0, 1, 2, 3, 0, 120, 1, 5, 0, 120, 1, 120, 120, 1, -2,
        1, 1600, 1, 0, 5, 2, 0, 0, 2, 0, 3, 10, 120, 50]


def forbidden(*given, **named):
    raise RuntimeError("the list that is handed in was changed")


class Unchanging(list):
    """A list that can't be changed, not for a while either."""

    __setitem__ = __delitem__ = __iadd__ = __imul__ = forbidden
    append = clear = extend = insert = pop = remove = reverse = sort = forbidden


def long_line(random):
    """Forty calls in one list."""
    calls, asked = some_line(random)
    return [number for call in calls for number in call]


class Interface(unittest.TestCase):
    def test_several_calls_in_one_list(self):
        self.assertEqual(answers(LINE), TOLD)

    def test_one_call_alone(self):
        self.assertEqual(answers(page(1, 1, [255])), [1, 0])
        self.assertEqual(answers(raw_hole([])), [1, 0])
        self.assertEqual(answers(solve(0)), [1, -4])

    def test_every_call_has_its_answer_up_to_forty(self):
        self.assertEqual(answers(page(1, 2, [8, 9]) + hole([(0, 1)]) + solve(0) * 38),
                         [1, 0, 1, 1] + [3, 0, 8, 1] * 38)

    def test_the_longest_list(self):
        calls = page(GREATEST, 8, [GREATEST] * 70) * 40
        self.assertEqual(len(calls), 2960)
        self.assertEqual(answers(calls), [1, -1] * 40)

    def test_refused_rows_are_passed_over_whole(self):
        # What stands in the rows would be calls itself, if they were read wrongly.
        calls = page(0, 0, solve(0)) + patch(solve(0)) + raw_hole(page(1, 1, [])) + off(9, fill(0) + CELLS) + solve(0)
        self.assertEqual(answers(calls), [1, -1, 1, -1, 1, -1, 1, -2, 1, -4])

    def test_whole_numbers_and_lists_alone(self):
        random = Random(19)
        for line in [LINE] + [long_line(random) for turn in range(9)]:
            told = answers(line)
            self.assertIs(type(told), list)
            self.assertEqual({type(number) for number in told}, {int})

    def test_what_is_handed_in_is_not_changed(self):
        random = Random(9)
        for turn in range(20):
            calls = long_line(random)
            before = list(calls)
            told = answers(Unchanging(calls))
            self.assertEqual(answers(calls), told)
            self.assertEqual(calls, before)

    def test_nothing_is_kept(self):
        random = Random(10)
        lines = [LINE, solve(0), patch([1]), hole([(0, 0)]), cell(0, 0, 0), off(0, [0]), fill(0), EDGE, CELLS]
        lines += [long_line(random) for turn in range(9)]
        first = [answers(line) for line in lines]
        self.assertEqual([answers(line) for line in reversed(lines)], first[::-1])
        self.assertEqual(first[1:9], [[1, -4], [1, 0], [1, -6], [1, -4], [1, -4], [1, -4], [1, 0], [1, 0]])

    def test_what_is_given_back_is_the_askers_own(self):
        told = answers(LINE)
        told.clear()
        self.assertEqual(answers(LINE), TOLD)


class Lines(unittest.TestCase):
    def test_what_one_call_left_is_seen_by_the_later_ones(self):
        told = ask(CELLS, EDGE, fill(0), page(4, 1, [0, 100, 7, 9]), CELLS, hole([(1, 0), (2, 0)]), EDGE, solve(0),
                   off(0, [3, 6]), fill(0), CELLS, off(2, [3, 6]), patch([0, 100, 7, 9]), hole([(1, 0)]), EDGE,
                   cell(1, 1, 0), fill(1), fill(2), CELLS, page(4, 1, [9] * 3), CELLS, hole([(3, 0)]), fill(3),
                   solve(2), page(1, 2, [5, 8]), EDGE, CELLS, off(0, [5]), hole([(0, 1)]), off(0, [5]), fill(0),
                   CELLS)
        self.assertEqual(told, [
            [0], [0], [-4], [0], [0, 100, 7, 9], [2], [2, 0, 0, 3, 0], [0, 3, 1, 6, 1],
            [0], [0], [0, 3, 6, 9], [193 * 193 + 96 * 96], [0], [2], [2, 0, 0, 2, 0],
            [0, 199, 2, 100, 100], [1], [0], [0, 100, 6, 9], [-1], [0, 100, 6, 9], [1], [-2],
            [0, 9, 1], [0], [0], [5, 8], [-4], [1], [0], [0],
            [5, 5]])

    def test_forty_calls_as_the_document_says(self):
        random = Random(20)
        kinds = {}
        for turn in range(150):
            calls, asked = some_line(random)
            told = ask(*calls)
            for at, call in enumerate(calls):
                self.assertEqual(told[at], asked[at], (at, calls))
                kinds[call[0], min(asked[at][0], 0)] = True
        # All nine calls stand there, granted and with each refusal that the promises name.
        for number, refusals in enumerate(((-1, -2), (-1, -2), (-1, -6), (-2, -4), (-2, -3, -4), (-2, -3, -4),
                                           (-2, -4), (), ())):
            for refusal in (0, *refusals):
                self.assertIn((number, refusal), kinds)

    def test_the_greatest_page_with_twelve_cells_filled_over_and_over(self):
        picture = [(37 * at + at * at) % 256 for at in range(64)]
        patched = [(91 * at + 5 * at * at) % 256 for at in range(64)]
        cells = [(2 + x, 3 + y) for x, y in grid_cells(4, 3)]
        calls = [page(8, 8, picture), patch(patched), hole(cells), EDGE]
        for turn in range(9):
            calls += [solve(2), fill(turn % 3), off(2, picture[:12]), CELLS]
        model = Model()
        self.assertEqual(len(calls), 40)
        self.assertEqual(ask(*calls), [model.answer(call) for call in calls])
