"""Promise 1: page and patch."""

import unittest

from tests.helper import GREATEST, ask, ask_last, cell, hole, page, patch, solve

THREE = page(3, 1, [10, 20, 50])
MIDDLE = hole([(1, 0)])


class PageGranted(unittest.TestCase):
    def test_every_size_is_granted(self):
        for w in range(1, 9):
            for h in range(1, 9):
                self.assertEqual(ask(page(w, h, [7] * (w * h))), [[0]])

    def test_0_and_255_are_granted(self):
        self.assertEqual(ask(page(2, 1, [0, 255]), patch([255, 0])), [[0], [0]])

    def test_the_numbers_are_the_picture_row_by_row(self):
        numbers = [3, 100, 7, 1, 50, 21]
        told = ask(page(3, 2, numbers), hole([(1, 1)]), solve(0))
        self.assertEqual(told, [[0], [3], [0, 122, 3]])

    def test_columns_and_rows_are_not_mixed_up(self):
        numbers = [3, 100, 7, 1, 50, 21]
        told = ask(page(2, 3, numbers), hole([(1, 1)]), solve(0))
        self.assertEqual(told, [[0], [3], [0, 128, 3]])

    def test_page_sets_the_patch_to_the_same_numbers(self):
        self.assertEqual(ask_last(THREE, MIDDLE, solve(1)), [0, 20, 1])

    def test_page_sets_the_patch_anew(self):
        told = ask_last(page(3, 1, [0, 0, 0]), patch([0, 90, 0]), THREE, MIDDLE, solve(1))
        self.assertEqual(told, [0, 20, 1])

    def test_page_takes_the_hole_away(self):
        told = ask(THREE, MIDDLE, solve(0), THREE, solve(0), cell(0, 1, 0))
        self.assertEqual(told[2:], [[0, 30, 1], [0], [-4], [-4]])


class PageRefused(unittest.TestCase):
    def test_sides_that_there_are_not(self):
        for side in (0, 9, GREATEST):
            for count in (0, 1, 9, 64, 70):
                with self.subTest(side=side, count=count):
                    self.assertEqual(ask(page(side, 1, [1] * count)), [[-1]])
                    self.assertEqual(ask(page(1, side, [1] * count)), [[-1]])
                    self.assertEqual(ask(page(side, side, [1] * count)), [[-1]])

    def test_too_few_too_many_and_no_numbers(self):
        for w, h in ((1, 1), (3, 2), (8, 8), (8, 1)):
            for count in (0, w * h - 1, w * h + 1, 70):
                with self.subTest(w=w, h=h, count=count):
                    self.assertEqual(ask(page(w, h, [1] * count)), [[-1]])

    def test_numbers_above_255(self):
        for number in (256, 257, GREATEST):
            for at in range(4):
                numbers = [255] * 4
                numbers[at] = number
                self.assertEqual(ask(page(2, 2, numbers)), [[-2]])

    def test_of_several_the_first_is_told(self):
        self.assertEqual(ask(page(0, 1, [256])), [[-1]])
        self.assertEqual(ask(page(9, 1, [256] * 9)), [[-1]])
        self.assertEqual(ask(page(2, 2, [256] * 3)), [[-1]])
        self.assertEqual(ask(page(2, 2, [256] * 5)), [[-1]])

    def test_a_refusal_leaves_all_as_it_was(self):
        before = [THREE, patch([0, 90, 0]), MIDDLE]
        kept = ask(*before, solve(0), solve(1), solve(2), cell(1, 1, 0))[3:]
        self.assertEqual(kept[1], [0, 120, 1])
        for refused in (page(0, 0, []), page(9, 1, [5] * 9), page(1, GREATEST, []), page(2, 2, [5] * 3),
                        page(3, 1, [5, 5, 256]), page(2, 1, [256, 5]), page(3, 1, [])):
            told = ask(*before, refused, solve(0), solve(1), solve(2), cell(1, 1, 0))
            self.assertLess(told[3][0], 0)
            self.assertEqual(told[4:], kept)


class Patch(unittest.TestCase):
    def test_patch_sets_the_patch_alone(self):
        told = ask(THREE, patch([0, 90, 0]), MIDDLE, solve(0), solve(1))
        self.assertEqual(told, [[0], [0], [2], [0, 30, 1], [0, 120, 1]])

    def test_patch_leaves_the_hole(self):
        self.assertEqual(ask_last(THREE, MIDDLE, patch([0, 90, 0]), solve(1)), [0, 120, 1])

    def test_at_its_beginning_the_page_takes_one_number(self):
        self.assertEqual(ask(patch([255])), [[0]])
        self.assertEqual(ask(patch([]), patch([1, 2])), [[-1], [-1]])

    def test_too_few_too_many_and_no_numbers(self):
        for count in (0, 1, 2, 4, 64, 70):
            self.assertEqual(ask(THREE, patch([1] * count)), [[0], [-1]])

    def test_numbers_above_255(self):
        for number in (256, 257, GREATEST):
            for at in range(3):
                numbers = [255] * 3
                numbers[at] = number
                self.assertEqual(ask(THREE, patch(numbers)), [[0], [-2]])

    def test_of_several_the_first_is_told(self):
        self.assertEqual(ask(THREE, patch([256] * 2), patch([256] * 4)), [[0], [-1], [-1]])

    def test_a_refusal_leaves_the_patch_that_was(self):
        for refused in (patch([]), patch([1, 2]), patch([5, 5, 5, 5]), patch([256, 5, 5]), patch([5, 5, 256])):
            told = ask(THREE, patch([0, 90, 0]), MIDDLE, refused, solve(1))
            self.assertLess(told[3][0], 0)
            self.assertEqual(told[4], [0, 120, 1])
