"""Promise 3 for solve and cell, and what the document's bold sentence says of the solution."""

import unittest
from fractions import Fraction
from itertools import combinations
from math import floor, gcd
from random import Random

from tests.helper import (GREATEST, ask, ask_last, cell, edge, fractions_of, grid_cells, hole, is_hole, misses,
                          page, patch, raw_hole, solve, some_page)


def middle(left, right, patched):
    """A row of three whose middle is the hole."""
    return [page(3, 1, [left, 0, right]), patch(patched), hole([(1, 0)])]


class Equations(unittest.TestCase):
    def fulfils(self, w, h, picture, patched, cells):
        told = ask(page(w, h, picture), patch(patched), hole(cells), solve(0), solve(1), solve(2))
        for way in range(3):
            answer = told[3 + way]
            self.assertEqual(len(answer), 1 + 2 * len(cells))
            for upper, lower in zip(answer[1::2], answer[2::2]):
                self.assertGreater(lower, 0)
                self.assertEqual(gcd(upper, lower), 1)
            left = misses(w, h, picture, patched, cells, way, fractions_of(answer))
            self.assertEqual(left, [0] * len(cells), (w, h, picture, patched, cells, way))

    def test_every_hole_of_small_pages(self):
        random = Random(1)
        for w, h in ((2, 1), (1, 4), (2, 2), (3, 2), (3, 3)):
            cells = grid_cells(w, h)
            for count in range(1, len(cells)):
                for chosen in combinations(cells, count):
                    self.assertTrue(is_hole(w, h, chosen))
                    picture = [random.randint(0, 255) for at in cells]
                    patched = [random.randint(0, 255) for at in cells]
                    self.fulfils(w, h, picture, patched, list(chosen))

    def test_pages_of_all_sizes(self):
        random = Random(2)
        for turn in range(300):
            self.fulfils(*some_page(random, random.choice((1, 3, 255))))

    def test_twelve_cells_in_one_piece(self):
        random = Random(3)
        for w, h, left, top in ((4, 4, 0, 0), (8, 8, 2, 3), (8, 8, 4, 5), (6, 3, 1, 0)):
            cells = [(left + x, top + y) for x, y in grid_cells(4, 3)]
            for greatest in (1, 255):
                picture = [random.choice((0, greatest)) for at in range(w * h)]
                patched = [random.choice((0, greatest)) for at in range(w * h)]
                self.fulfils(w, h, picture, patched, cells)

    def test_a_row_with_its_edge_at_one_end(self):
        self.fulfils(8, 1, [255, 0, 3, 255, 0, 1, 2, 9], [0, 255, 0, 255, 0, 255, 0, 255],
                     [(x, 0) for x in range(1, 8)])


class Ways(unittest.TestCase):
    def test_the_three_ways_on_one_page(self):
        told = ask(*middle(10, 20, [4, 9, 1]), solve(0), solve(1), solve(2))
        self.assertEqual(told[3:], [[0, 15, 1], [0, 43, 2], [0, 0, 1]])

    def test_the_picture_is_taken_only_if_it_is_greater(self):
        # As great as the patch's but of the other sign: the patch's stays.
        start = [page(2, 1, [7, 0]), patch([0, 7]), hole([(1, 0)])]
        self.assertEqual(ask_last(*start, solve(2)), [0, 14, 1])
        start = [page(2, 1, [8, 0]), patch([0, 7]), hole([(1, 0)])]
        self.assertEqual(ask_last(*start, solve(2)), [0, 0, 1])

    def test_the_choice_is_made_for_each_two_cells(self):
        start = [page(3, 1, [50, 40, 40]), patch([0, 3, 100]), hole([(1, 0)])]
        self.assertEqual(ask_last(*start, solve(2)), [0, -17, 2])

    def test_the_cells_stand_in_the_order_of_the_hole(self):
        told = ask_last(page(5, 1, [10, 0, 30, 0, 70]), hole([(1, 0), (3, 0)]), solve(0))
        self.assertEqual(told, [0, 20, 1, 50, 1])

    def test_0_has_1_for_its_lower_number(self):
        told = ask_last(page(4, 4, [0] * 16), hole([(1, 1), (2, 1), (1, 2)]), solve(0))
        self.assertEqual(told, [0, 0, 1, 0, 1, 0, 1])

    def test_an_upper_number_below_0(self):
        self.assertEqual(ask_last(*middle(0, 0, [1, 0, 0]), solve(1)), [0, -1, 2])


class Cell(unittest.TestCase):
    def test_cell_tells_what_solve_tells(self):
        random = Random(4)
        for turn in range(100):
            w, h, picture, patched, cells = some_page(random)
            start = [page(w, h, picture), patch(patched), hole(cells)]
            for way in range(3):
                told = ask(*start, solve(way), *[cell(way, x, y) for x, y in cells])
                for at, answer in enumerate(told[4:]):
                    upper, lower = told[3][1 + 2 * at:3 + 2 * at]
                    whole = floor(Fraction(upper, lower) + Fraction(1, 2))
                    self.assertEqual(answer, [0, upper, lower, whole, min(255, max(0, whole))])

    def test_halves_go_upwards(self):
        for right, upper, whole in ((1, 1, 1), (3, 3, 2), (255, 255, 128)):
            told = ask_last(*middle(0, right, [0, 0, 0]), cell(0, 1, 0))
            self.assertEqual(told, [0, upper, 2, whole, whole])

    def test_halves_go_upwards_below_0_too(self):
        for number, whole in ((1, 0), (3, -1), (5, -2), (255, -127)):
            told = ask_last(*middle(0, 0, [number, 0, 0]), cell(1, 1, 0))
            self.assertEqual(told, [0, -number, 2, whole, 0])

    def test_thirds_go_to_the_nearest(self):
        start = [page(4, 1, [0, 0, 0, 0]), hole([(1, 0), (2, 0)])]
        for patched, upper, whole in (([0, 0, 1, 1], -1, 0), ([1, 0, 0, 0], -2, -1)):
            self.assertEqual(ask_last(*start, patch(patched), cell(1, 1, 0)), [0, upper, 3, whole, 0])
        start = [page(4, 1, [0, 0, 0, 2]), hole([(1, 0), (2, 0)])]
        self.assertEqual(ask_last(*start, cell(0, 1, 0)), [0, 2, 3, 1, 1])
        self.assertEqual(ask_last(*start, cell(0, 2, 0)), [0, 4, 3, 1, 1])

    def test_held_at_0_and_at_255(self):
        for patched, picture, told in (([1, 0, 1], 0, [0, -1, 1, -1, 0]), ([255, 0, 255], 0, [0, -255, 1, -255, 0]),
                                       ([0, 1, 0], 255, [0, 256, 1, 256, 255]),
                                       ([1, 1, 0], 255, [0, 511, 2, 256, 255]),
                                       ([0, 0, 0], 255, [0, 255, 1, 255, 255]),
                                       ([0, 255, 0], 255, [0, 510, 1, 510, 255])):
            self.assertEqual(ask_last(*middle(picture, picture, patched), cell(1, 1, 0)), told)


class Refusals(unittest.TestCase):
    start = [page(4, 4, list(range(16))), hole([(1, 1), (2, 1)])]

    def test_a_way_above_2(self):
        for way in (3, 4, GREATEST):
            self.assertEqual(ask(*self.start, solve(way), cell(way, 1, 1))[2:], [[-2], [-2]])

    def test_no_hole(self):
        for way in range(3):
            self.assertEqual(ask(solve(way), cell(way, 0, 0)), [[-4], [-4]])
            self.assertEqual(ask(self.start[0], solve(way), cell(way, 1, 1))[1:], [[-4], [-4]])

    def test_cells_that_are_not_the_holes(self):
        for way in range(3):
            for x, y in ((0, 0), (0, 1), (3, 1), (1, 2), (4, 1), (1, 4), (GREATEST, GREATEST)):
                self.assertEqual(ask_last(*self.start, cell(way, x, y)), [-3])

    def test_a_column_beyond_the_page_is_no_cell_of_the_next_row(self):
        self.assertEqual(ask_last(*self.start, cell(0, 5, 0)), [-3])
        self.assertEqual(ask_last(*self.start, cell(0, 1, 1))[0], 0)

    def test_of_several_the_first_is_told(self):
        self.assertEqual(ask(solve(3), cell(3, 0, 0), cell(GREATEST, 9, 9)), [[-2], [-2], [-2]])
        self.assertEqual(ask(cell(0, 9, 9), cell(2, 0, 1)), [[-4], [-4]])
        self.assertEqual(ask_last(*self.start, cell(3, 9, 9)), [-2])

    def test_no_call_of_these_changes_anything(self):
        asked = [solve(0), solve(1), cell(2, 1, 1), cell(0, 2, 1)]
        told = ask(*self.start, *asked, solve(3), cell(3, 1, 1), cell(0, 0, 0), raw_hole([1]), *asked)
        self.assertEqual(told[2:6], told[10:])


class BoldSentence(unittest.TestCase):
    def test_filled_smoothly_each_cell_lies_between_those_around_the_hole(self):
        random = Random(5)
        for turn in range(300):
            w, h, picture, patched, cells = some_page(random)
            told = ask_last(page(w, h, picture), patch(patched), hole(cells), solve(0))
            around = [picture[y * w + x] for x, y in edge(w, h, cells)]
            for value in fractions_of(told):
                self.assertTrue(min(around) <= value <= max(around))

    def test_filled_smoothly_neither_patch_nor_hidden_picture_counts(self):
        random = Random(6)
        for turn in range(50):
            w, h, picture, patched, cells = some_page(random)
            other = list(picture)
            for x, y in cells:
                other[y * w + x] = random.randint(0, 255)
            self.assertEqual(ask_last(page(w, h, picture), hole(cells), solve(0)),
                             ask_last(page(w, h, other), patch(patched), hole(cells), solve(0)))

    def test_a_patch_that_is_the_picture_but_for_so_much_fills_in_the_picture(self):
        random = Random(7)
        for turn in range(200):
            w, h, picture, patched, cells = some_page(random, 155)
            much = random.choice((0, 1, 50, 100))
            higher = [number + much for number in picture]
            asked = [0]
            asked_higher = [0]
            for x, y in cells:
                asked.extend((picture[y * w + x], 1))
                asked_higher.extend((higher[y * w + x], 1))
            for way in (1, 2):
                told = ask(page(w, h, picture), patch(higher), hole(cells), solve(way),
                           page(w, h, higher), patch(picture), hole(cells), solve(way))
                self.assertEqual(told[3], asked)
                self.assertEqual(told[7], asked_higher)

    def test_nothing_else_solves_it(self):
        # One cell's number moved by anything leaves its own equation unfulfilled.
        random = Random(8)
        for turn in range(50):
            w, h, picture, patched, cells = some_page(random)
            told = fractions_of(ask_last(page(w, h, picture), patch(patched), hole(cells), solve(1)))
            for at in range(len(cells)):
                moved = list(told)
                moved[at] += Fraction(random.choice((-1, 1)), random.randint(1, 999))
                self.assertNotEqual(misses(w, h, picture, patched, cells, 1, moved)[at], 0)
