"""The calls edge and cells."""

import unittest
from itertools import combinations

from seamless.pages import answers
from tests.helper import (CELLS, EDGE, GREATEST, ask, ask_last, cell, edge, fill, grid_cells, hole, is_hole, off,
                          page, patch, raw_hole, solve)

NINE = page(3, 3, [1, 2, 3, 4, 50, 6, 7, 8, 9])
CENTRE = hole([(1, 1)])
REFUSED = [page(0, 3, []), page(3, 3, [5] * 8), page(3, 3, [5] * 8 + [256]), patch([5] * 8), patch([256] * 9),
           raw_hole([0]), hole([(3, 0)]), hole([(1, 0), (0, 0)]), hole(grid_cells(3, 3)), solve(3), cell(3, 1, 1),
           cell(0, 0, 0), off(3, [1]), off(0, []), off(0, [256]), fill(3), fill(GREATEST)]


class Edge(unittest.TestCase):
    def test_column_and_row_of_each_in_the_pages_order(self):
        self.assertEqual(ask_last(NINE, CENTRE, EDGE), [4, 1, 0, 0, 1, 2, 1, 1, 2])
        self.assertEqual(ask_last(NINE, hole([(0, 0)]), EDGE), [2, 1, 0, 0, 1])
        self.assertEqual(ask_last(page(4, 2, [1] * 8), hole([(3, 0), (0, 1)]), EDGE), [4, 0, 0, 2, 0, 1, 1, 3, 1])

    def test_columns_and_rows_are_not_mixed_up(self):
        self.assertEqual(ask_last(page(2, 5, [1] * 10), hole([(1, 4)]), EDGE), [2, 1, 3, 0, 4])
        self.assertEqual(ask_last(page(5, 2, [1] * 10), hole([(4, 1)]), EDGE), [2, 4, 0, 3, 1])

    def test_a_cell_beside_two_of_the_hole_stands_once(self):
        self.assertEqual(ask_last(NINE, hole([(1, 0), (0, 1)]), EDGE), [4, 0, 0, 2, 0, 1, 1, 0, 2])

    def test_every_hole_of_small_pages(self):
        for w, h in ((1, 1), (2, 1), (1, 4), (2, 2), (3, 2), (3, 3)):
            cells = grid_cells(w, h)
            for count in range(len(cells)):
                for chosen in combinations(cells, count):
                    self.assertTrue(is_hole(w, h, chosen))
                    asked = edge(w, h, chosen)
                    told = ask(page(w, h, [1] * (w * h)), hole(chosen), EDGE)
                    self.assertEqual(told[2], [len(asked)] + [number for at in asked for number in at])
                    self.assertEqual(told[1], told[2][:1])

    def test_twelve_cells_apart_on_the_greatest_page(self):
        cells = [at for at in grid_cells(8, 8) if (at[0] - at[1]) % 3 == 0 and 0 < at[0] < 7][:12]
        asked = edge(8, 8, cells)
        told = ask_last(page(8, 8, [1] * 64), hole(cells), EDGE)
        self.assertEqual(told, [len(asked)] + [number for at in asked for number in at])
        self.assertGreater(len(asked), 20)

    def test_without_a_hole_0_alone(self):
        self.assertEqual(answers(EDGE), [1, 0])
        self.assertEqual(ask(EDGE, NINE, EDGE, CENTRE, hole([]), EDGE), [[0], [0], [0], [4], [0], [0]])
        self.assertEqual(ask_last(NINE, CENTRE, NINE, EDGE), [0])

    def test_a_second_hole_has_its_own_edge(self):
        self.assertEqual(ask_last(NINE, CENTRE, hole([(2, 2)]), EDGE), [2, 2, 1, 1, 2])

    def test_patch_fill_and_refusals_leave_it(self):
        for call in [patch([0] * 9), fill(0), fill(1), off(0, [1]), CELLS, EDGE, *REFUSED]:
            self.assertEqual(ask_last(NINE, CENTRE, call, EDGE), [4, 1, 0, 0, 1, 2, 1, 1, 2])


class Cells(unittest.TestCase):
    def test_at_the_beginning(self):
        self.assertEqual(answers(CELLS), [1, 0])
        self.assertEqual(answers(CELLS * 40), [1, 0] * 40)

    def test_after_page_the_numbers_alone_cell_by_cell(self):
        self.assertEqual(answers(NINE + CELLS), [1, 0, 9, 1, 2, 3, 4, 50, 6, 7, 8, 9])
        self.assertEqual(ask_last(NINE, page(2, 1, [255, 0]), CELLS), [255, 0])

    def test_every_size(self):
        for w in range(1, 9):
            for h in range(1, 9):
                numbers = [(7 * at) % 256 for at in range(w * h)]
                self.assertEqual(ask_last(page(w, h, numbers), CELLS), numbers)

    def test_patch_and_hole_leave_the_picture(self):
        self.assertEqual(ask(patch([9]), CELLS), [[0], [0]])
        self.assertEqual(ask_last(NINE, patch([0] * 9), CENTRE, CELLS), [1, 2, 3, 4, 50, 6, 7, 8, 9])

    def test_after_fill(self):
        told = ask(NINE, CENTRE, fill(0), CELLS, hole([(0, 0), (2, 2)]), fill(0), CELLS)
        self.assertEqual(told[2:], [[0], [1, 2, 3, 4, 5, 6, 7, 8, 9], [4], [0], [3, 2, 3, 4, 5, 6, 7, 8, 7]])

    def test_solve_cell_off_and_edge_leave_the_picture(self):
        told = ask_last(NINE, CENTRE, solve(0), cell(1, 1, 1), off(2, [3]), EDGE, CELLS)
        self.assertEqual(told, [1, 2, 3, 4, 50, 6, 7, 8, 9])

    def test_refusals_leave_the_picture(self):
        for refused in REFUSED:
            told = ask(NINE, CENTRE, refused, CELLS)
            self.assertLess(told[2][0], 0, refused)
            self.assertEqual(told[3], [1, 2, 3, 4, 50, 6, 7, 8, 9])
            told = ask(NINE, CENTRE, fill(0), refused, CELLS)
            self.assertLess(told[3][0], 0, refused)
            self.assertEqual(told[4], [1, 2, 3, 4, 5, 6, 7, 8, 9])
