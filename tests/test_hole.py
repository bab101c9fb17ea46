"""Promise 2: hole."""

import unittest
from itertools import combinations

from tests.helper import GREATEST, ask, ask_last, edge, grid_cells, hole, is_hole, page, raw_hole, solve

FOUR = page(4, 4, list(range(16)))


class HoleGranted(unittest.TestCase):
    def test_one_cell_has_its_neighbours_for_an_edge(self):
        self.assertEqual(ask_last(FOUR, hole([(1, 1)])), [4])
        self.assertEqual(ask_last(FOUR, hole([(0, 1)])), [3])
        self.assertEqual(ask_last(FOUR, hole([(3, 3)])), [2])

    def test_a_cell_beside_two_of_the_hole_counts_once(self):
        self.assertEqual(ask_last(FOUR, hole([(1, 0), (0, 1)])), [4])

    def test_every_hole_of_small_pages(self):
        for w, h in ((1, 1), (1, 4), (2, 2), (3, 2), (3, 3)):
            cells = grid_cells(w, h)
            for count in range(len(cells) + 1):
                for chosen in combinations(cells, count):
                    asked = [len(edge(w, h, chosen))] if is_hole(w, h, chosen) else [-6]
                    self.assertEqual(ask_last(page(w, h, [1] * (w * h)), hole(chosen)), asked)

    def test_twelve_cells(self):
        self.assertEqual(ask_last(FOUR, hole(grid_cells(4, 3))), [4])

    def test_the_far_corner_of_the_greatest_page(self):
        self.assertEqual(ask_last(page(8, 8, [1] * 64), hole([(7, 7)])), [2])

    def test_no_cells_at_all(self):
        self.assertEqual(ask(hole([])), [[0]])
        self.assertEqual(ask(FOUR, hole([(1, 1)]), hole([]), solve(0)), [[0], [4], [0], [-4]])

    def test_a_second_hole_takes_the_place_of_the_first(self):
        told = ask(FOUR, hole([(1, 1)]), hole([(2, 2)]), solve(0))
        self.assertEqual(told, [[0], [4], [4], [0, 10, 1]])


class HoleRefused(unittest.TestCase):
    def refuses(self, numbers, refusal):
        """Refused so, and the hole that was is there still."""
        told = ask(FOUR, hole([(1, 1)]), raw_hole(numbers), solve(0))
        self.assertEqual(told[2:], [[refusal], [0, 5, 1]])

    def test_numbers_that_are_not_pairs(self):
        for numbers in ([0], [2, 2, 3], [0, 0] * 14 + [0], [GREATEST]):
            self.refuses(numbers, -1)

    def test_more_than_twelve_cells(self):
        for count in (13, 14, 15):
            self.refuses([number for at in grid_cells(4, 4)[:count] for number in at], -1)

    def test_cells_that_there_are_not(self):
        for at in ((4, 0), (0, 4), (4, 4), (GREATEST, 0), (0, GREATEST), (8, 1), (5, 0)):
            self.refuses([*at], -1)
            self.refuses([0, 0, *at], -1)

    def test_cells_out_of_order(self):
        self.refuses([2, 1, 1, 1], -1)
        self.refuses([0, 1, 3, 0], -1)
        self.refuses([0, 0, 0, 2, 0, 1], -1)

    def test_a_cell_twice(self):
        self.refuses([2, 1, 2, 1], -1)
        self.refuses([1, 1, 2, 1, 1, 1], -1)

    def test_order_is_by_rows_first(self):
        self.assertEqual(ask_last(FOUR, hole([(3, 0), (0, 1)])), [5])

    def test_the_whole_page(self):
        self.assertEqual(ask(hole([(0, 0)])), [[-6]])
        self.assertEqual(ask_last(page(4, 3, [1] * 12), hole(grid_cells(4, 3))), [-6])
        self.assertEqual(ask_last(page(1, 8, [1] * 8), hole(grid_cells(1, 8))), [-6])

    def test_a_whole_page_leaves_the_hole_that_was(self):
        told = ask(page(2, 1, [4, 9]), hole([(0, 0)]), hole([(0, 0), (1, 0)]), solve(0))
        self.assertEqual(told, [[0], [1], [-6], [0, 9, 1]])

    def test_of_several_the_first_is_told(self):
        told = ask(hole([(0, 0), (0, 0)]), hole([(0, 0), (1, 0)]), raw_hole([0, 0, 0]))
        self.assertEqual(told, [[-1], [-1], [-1]])
        self.assertEqual(ask_last(page(7, 2, [1] * 14), hole(grid_cells(7, 2))), [-1])
