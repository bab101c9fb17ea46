"""Promise 3 for off and fill, and what the document says of them."""

import unittest
from random import Random

from tests.helper import (CELLS, EDGE, GREATEST, ask, ask_last, cell, edge, fill, fractions_of, grid_cells, held,
                          hole, numbers_of, off, off_by, page, patch, rounded, solve, some_page)

THREE = [page(3, 1, [10, 0, 50]), patch([4, 9, 1]), hole([(1, 0)])]
# In way 2 the picture's difference counts to the left, the patch's to the right: -10 and -97 are wanted.
MIXED = [page(3, 1, [50, 40, 40]), patch([0, 3, 100]), hole([(1, 0)])]
SQUARE = [page(4, 4, list(range(16))), patch(list(range(16, 0, -1))), hole([(1, 1), (2, 1)])]
SEEN = [CELLS, EDGE, solve(0), solve(1), solve(2), cell(2, 1, 1), off(2, [7, 8])]


def whole_page(random, w, h, cells):
    """The start of a line, and what it's about: a page with a hole that is given."""
    picture = [random.choice((0, 1, 254, 255, random.randint(0, 255))) for at in range(w * h)]
    patched = [random.choice((0, 1, 254, 255, random.randint(0, 255))) for at in range(w * h)]
    return [page(w, h, picture), patch(patched), hole(cells)], (w, h, picture, patched, cells)


class Off(unittest.TestCase):
    def offs(self, start, way, pairs):
        """Of each pair the numbers are off by as much as stands behind them."""
        for numbers, asked in pairs:
            self.assertEqual(ask_last(*start, off(way, numbers)), [asked], (way, numbers))

    def test_way_0_wants_nothing(self):
        self.offs(THREE, 0, (([30], 0), ([31], 4), ([29], 4), ([0], 3600), ([255], 202500)))

    def test_way_1_wants_the_patchs_differences(self):
        self.offs(THREE, 1, (([36], 1), ([37], 1), ([0], 5329), ([255], 190969)))

    def test_way_2_wants_the_pictures_differences_where_they_are_greater(self):
        self.offs(THREE, 2, (([0], 0), ([1], 4), ([255], 260100)))
        self.offs(MIXED, 2, (([0], 289), ([40], 97 * 97), ([255], 527 * 527)))

    def test_way_2_keeps_the_patchs_difference_if_the_pictures_is_only_as_great(self):
        start = [page(2, 1, [7, 0]), patch([0, 7]), hole([(1, 0)])]
        self.offs(start, 2, (([14], 0), ([0], 196)))

    def test_a_cell_at_the_border_has_fewer_beside_it(self):
        start = [page(2, 2, [1, 2, 3, 4]), patch([9, 0, 0, 0]), hole([(0, 0)])]
        self.offs(start, 0, (([2], 1), ([3], 1), ([0], 25)))
        self.offs(start, 1, (([11], 1), ([0], 23 * 23)))
        start = [page(3, 2, [1, 2, 3, 4, 5, 7]), hole([(1, 1)])]
        self.offs(start, 0, (([4], 1), ([5], 4)))
        self.offs(start, 1, (([5], 0), ([4], 9)))

    def test_the_end_of_a_row_is_not_beside_the_next(self):
        self.offs([page(2, 2, [0, 0, 100, 0]), hole([(1, 0)])], 0, (([0], 0), ([5], 100)))

    def test_cells_of_the_hole_beside_one_another_count_with_these_numbers(self):
        start = [page(4, 1, [10, 200, 100, 40]), hole([(1, 0), (2, 0)])]
        self.offs(start, 0, (([20, 30], 0), ([20, 20], 500), ([30, 20], 30 * 30 + 30 * 30), ([0, 0], 1700)))
        self.offs(start, 1, (([200, 100], 0), ([100, 200], 300 * 300 * 2)))

    def test_the_numbers_stand_in_the_order_of_the_hole(self):
        start = [page(2, 3, [0, 10, 0, 0, 0, 50]), hole([(1, 1), (0, 2)])]
        self.offs(start, 0, (([20, 25], 0), ([25, 20], 225 + 100)))

    def test_each_cell_is_squared_by_itself(self):
        # One cell is 2 too high, the other 2 too low: these don't make up for one another.
        start = [page(5, 1, [0, 0, 0, 0, 0]), patch([0, 0, 0, 2, 0]), hole([(1, 0), (3, 0)])]
        self.offs(start, 1, (([1, 1], 4 + 4), ([0, 2], 0)))

    def test_as_the_document_says_on_pages_of_all_sizes(self):
        random = Random(11)
        for turn in range(200):
            w, h, picture, patched, cells = some_page(random, random.choice((1, 3, 255)))
            numbers = numbers_of(random, len(cells), 255)
            told = ask(page(w, h, picture), patch(patched), hole(cells), *[off(way, numbers) for way in range(3)])
            for way in range(3):
                self.assertEqual(told[3 + way], [off_by(w, h, picture, patched, cells, way, numbers)])

    def test_twelve_cells_on_the_greatest_page(self):
        random = Random(12)
        for left, top in ((0, 0), (2, 3), (4, 5)):
            start, about = whole_page(random, 8, 8, [(left + x, top + y) for x, y in grid_cells(4, 3)])
            for way in range(3):
                for numbers in ([0] * 12, [255] * 12, [0, 255] * 6, numbers_of(random, 12, 255)):
                    self.offs(start, way, ((numbers, off_by(*about, way, numbers)),))

    def test_a_whole_solution_is_not_off_and_all_else_is(self):
        random = Random(13)
        for turn in range(60):
            w, h, picture, patched, cells = some_page(random, 155)
            higher = [number + 100 for number in picture]
            own = [picture[y * w + x] for x, y in cells]
            at = random.randrange(len(cells))
            other = own[:at] + [own[at] + random.randint(1, 100)] + own[at + 1:]
            for way in (1, 2):
                told = ask(page(w, h, picture), patch(higher), hole(cells), off(way, own), off(way, other))
                self.assertEqual(told[3], [0])
                self.assertGreater(told[4][0], 0)

    def test_off_changes_nothing(self):
        for asked in (off(0, [1, 255]), off(1, [0, 0]), off(2, [255, 255]), off(3, [1, 2]), off(0, [1])):
            self.assertEqual(ask(*SQUARE, asked, *SEEN)[4:], ask(*SQUARE, *SEEN)[3:])


class OffRefused(unittest.TestCase):
    def test_a_way_above_2(self):
        for way in (3, 4, GREATEST):
            self.assertEqual(ask_last(*SQUARE, off(way, [1, 2])), [-2])

    def test_no_hole(self):
        for way in range(3):
            for numbers in ([], [0], [1, 2]):
                self.assertEqual(ask_last(off(way, numbers)), [-4])
                self.assertEqual(ask_last(*SQUARE, SQUARE[0], off(way, numbers)), [-4])
                self.assertEqual(ask_last(*SQUARE, hole([]), off(way, numbers)), [-4])

    def test_too_few_too_many_and_no_numbers(self):
        for way in range(3):
            for count in (0, 1, 3, 12, 16):
                self.assertEqual(ask_last(*SQUARE, off(way, [1] * count)), [-3])
        twelve = [page(8, 8, [1] * 64), hole(grid_cells(8, 8)[:12])]
        self.assertEqual(ask(*twelve, *[off(0, [1] * count) for count in (11, 12, 13)])[2:], [[-3], [0], [-3]])

    def test_numbers_above_255(self):
        for way in range(3):
            for number in (256, 257, GREATEST):
                self.assertEqual(ask_last(*SQUARE, off(way, [255, number])), [-3])
                self.assertEqual(ask_last(*SQUARE, off(way, [number, 0])), [-3])
            self.assertGreaterEqual(ask_last(*SQUARE, off(way, [255, 0]))[0], 0)

    def test_of_several_the_first_is_told(self):
        for numbers in ([], [256], [256, 256], [1, 2]):
            self.assertEqual(ask(off(3, numbers), off(2, numbers)), [[-2], [-4]])
            self.assertEqual(ask_last(*SQUARE, off(3, numbers)), [-2])
        self.assertEqual(ask_last(*SQUARE, off(2, [256])), [-3])


class Fill(unittest.TestCase):
    def test_the_three_ways_on_one_page(self):
        for way, told, picture in ((0, 0, [10, 30, 50]), (1, 1, [10, 37, 50]), (2, 0, [10, 0, 50])):
            self.assertEqual(ask(*THREE, fill(way), CELLS)[3:], [[told], picture])

    def test_halves_go_upwards(self):
        for right, number in ((1, 1), (3, 2), (255, 128)):
            self.assertEqual(ask(page(3, 1, [0, 9, right]), hole([(1, 0)]), fill(0), CELLS)[2:],
                             [[1], [0, number, right]])

    def test_way_2_looks_at_the_picture_ahead_of_the_call(self):
        told = ask(*MIXED, fill(2), CELLS, solve(2), off(2, [0]), fill(2), CELLS)
        self.assertEqual(told[3:], [[289], [50, 0, 40], [0, -57, 2], [57 * 57], [57 * 57], [50, 0, 40]])

    def test_way_2_looks_at_the_hidden_picture_of_cells_beside_one_another(self):
        # The patch has no differences at all, so way 2 keeps the picture's, as each call finds them.
        start = [page(4, 1, [10, 10, 100, 0]), patch([0, 0, 0, 0]), hole([(1, 0), (2, 0)])]
        told = ask(*start, solve(2), fill(2), CELLS, fill(1), CELLS, solve(2))
        self.assertEqual(told[3:], [[0, 10, 1, 100, 1], [0], [10, 10, 100, 0], [2], [10, 7, 3, 0], [0, 7, 1, 3, 1]])

    def test_held_at_0_and_at_255(self):
        for picture, patched, told, number in ((0, [1, 0, 1], 4, 0), (255, [0, 1, 0], 4, 255), (0, [1, 0, 0], 1, 0),
                                               (255, [1, 1, 0], 1, 255), (0, [255, 0, 255], 510 * 510, 0),
                                               (255, [0, 255, 0], 510 * 510, 255), (255, [0, 0, 0], 0, 255)):
            start = [page(3, 1, [picture, 99, picture]), patch(patched), hole([(1, 0)])]
            self.assertEqual(ask(*start, fill(1), CELLS)[3:], [[told], [picture, number, picture]])

    def test_the_hole_stays(self):
        told = ask(*SQUARE, EDGE, fill(0), EDGE, solve(0), cell(0, 2, 1), off(0, [5, 6]))
        self.assertEqual(told[3], told[5])
        self.assertEqual(told[6:], ask(*SQUARE, solve(0), cell(0, 2, 1), off(0, [5, 6]))[3:])

    def test_the_patch_stays(self):
        self.assertEqual(ask(*THREE, fill(0), solve(1))[3:], [[0], [0, 73, 2]])
        # The page's numbers are the patch's too, and the patch keeps what the hole had.
        told = ask(page(3, 1, [10, 20, 50]), hole([(1, 0)]), fill(0), CELLS, solve(1), fill(1), CELLS)
        self.assertEqual(told[2:], [[0], [10, 30, 50], [0, 20, 1], [0], [10, 20, 50]])

    def test_ways_0_and_1_have_the_same_solution_afterwards(self):
        random = Random(14)
        for turn in range(60):
            w, h, picture, patched, cells = some_page(random)
            start = [page(w, h, picture), patch(patched), hole(cells)]
            for way in (0, 1):
                told = ask(*start, solve(way), fill(way), CELLS, solve(way), fill(way), CELLS)
                self.assertEqual(told[3:6], told[6:])

    def test_a_later_hole_meets_what_was_filled(self):
        told = ask(page(4, 1, [2, 9, 4, 8]), hole([(1, 0)]), fill(0), hole([(2, 0)]), solve(0), solve(1), fill(0), CELLS)
        self.assertEqual(told[2:], [[0], [2], [0, 11, 2], [0, 1, 1], [1], [2, 3, 6, 8]])

    def test_as_the_document_says_on_pages_of_all_sizes(self):
        random = Random(15)
        for turn in range(200):
            self.fills(*some_page(random, random.choice((1, 3, 255))))

    def test_twelve_cells_on_the_greatest_page(self):
        random = Random(16)
        for left, top in ((0, 0), (2, 3), (4, 5)):
            self.fills(*whole_page(random, 8, 8, [(left + x, top + y) for x, y in grid_cells(4, 3)])[1])

    def fills(self, w, h, picture, patched, cells):
        start = [page(w, h, picture), patch(patched), hole(cells)]
        for way in range(3):
            told = ask(*start, solve(way), fill(way), CELLS)
            numbers = [held(rounded(value)) for value in fractions_of(told[3])]
            self.assertEqual(told[4], [off_by(w, h, picture, patched, cells, way, numbers)])
            self.assertEqual(told[4], ask_last(*start, off(way, numbers)))
            filled = list(picture)
            for (x, y), number in zip(cells, numbers):
                filled[y * w + x] = number
            self.assertEqual(told[5], filled)

    def test_filled_smoothly_each_cell_lies_between_those_around_the_hole(self):
        random = Random(17)
        for turn in range(100):
            w, h, picture, patched, cells = some_page(random)
            told = ask_last(page(w, h, picture), patch(patched), hole(cells), fill(0), CELLS)
            around = [picture[y * w + x] for x, y in edge(w, h, cells)]
            for x, y in cells:
                self.assertTrue(min(around) <= told[y * w + x] <= max(around))

    def test_a_patch_that_is_the_picture_but_for_so_much_fills_in_the_picture(self):
        random = Random(18)
        for turn in range(60):
            w, h, picture, patched, cells = some_page(random, 155)
            higher = [number + 100 for number in picture]
            for way in (1, 2):
                told = ask(page(w, h, picture), patch(higher), hole(cells), fill(way), CELLS)
                self.assertEqual(told[3:], [[0], picture])


class FillRefused(unittest.TestCase):
    def test_a_way_above_2(self):
        for way in (3, 4, GREATEST):
            self.assertEqual(ask_last(*SQUARE, fill(way)), [-2])

    def test_no_hole(self):
        for way in range(3):
            self.assertEqual(ask_last(fill(way)), [-4])
            self.assertEqual(ask_last(*SQUARE, SQUARE[0], fill(way)), [-4])
            self.assertEqual(ask_last(*SQUARE, hole([]), fill(way)), [-4])

    def test_of_several_the_first_is_told(self):
        self.assertEqual(ask(fill(3), fill(GREATEST)), [[-2], [-2]])

    def test_a_refusal_changes_nothing(self):
        for way in (3, GREATEST):
            self.assertEqual(ask(*SQUARE, fill(way), *SEEN)[4:], ask(*SQUARE, *SEEN)[3:])
        told = ask(SQUARE[0], fill(0), fill(3), CELLS, EDGE)
        self.assertEqual(told, [[0], [-4], [-2], list(range(16)), [0]])
