"""The interface: how calls and answers stand in their lists, and that nothing is changed or kept."""

import unittest
from random import Random

from seamless.pages import answers
from tests.helper import GREATEST, cell, hole, page, patch, raw_hole, solve, some_page

LINE = page(3, 1, [10, 20, 50]) + patch([0, 90, 0]) + hole([(1, 0)]) + solve(1) + cell(1, 1, 0) + solve(7)
TOLD = [1, 0, 1, 0, 1, 2, 3, 0, 120, 1, 5, 0, 120, 1, 120, 120, 1, -2]


def forbidden(*given, **named):
    raise RuntimeError("the list that is handed in was changed")


class Unchanging(list):
    """A list that can't be changed, not for a while either."""

    __setitem__ = __delitem__ = __iadd__ = __imul__ = forbidden
    append = clear = extend = insert = pop = remove = reverse = sort = forbidden


def long_line(random):
    """Forty calls, granted and refused."""
    w, h, picture, patched, cells = some_page(random)
    calls = [page(w, h, picture), patch(patched), hole(cells)]
    makers = (lambda: solve(random.randint(0, 3)), lambda: cell(random.randint(0, 3), *random.choice(cells)),
              lambda: cell(0, random.randint(0, 9), GREATEST), lambda: raw_hole([0] * random.randint(1, 30)),
              lambda: patch([256] * random.randint(0, 70)), lambda: patch(patched), lambda: page(9, 9, [1] * 70))
    while len(calls) < 40:
        calls.append(random.choice(makers)())
    return [number for call in calls for number in call]


class Interface(unittest.TestCase):
    def test_several_calls_in_one_list(self):
        self.assertEqual(answers(LINE), TOLD)

    def test_one_call_alone(self):
        self.assertEqual(answers(page(1, 1, [255])), [1, 0])
        self.assertEqual(answers(raw_hole([])), [1, 0])
        self.assertEqual(answers(solve(0)), [1, -4])

    def test_every_call_has_its_answer_up_to_forty(self):
        self.assertEqual(answers(page(1, 2, [8, 9]) + hole([(0, 1)]) + solve(0) * 38),
                         [1, 0, 1, 1] + [3, 0, 8, 1] * 38)

    def test_the_longest_list(self):
        calls = page(GREATEST, 8, [GREATEST] * 70) * 40
        self.assertEqual(len(calls), 2960)
        self.assertEqual(answers(calls), [1, -1] * 40)

    def test_refused_rows_are_passed_over_whole(self):
        # What stands in the rows would be calls itself, if they were read wrongly.
        calls = page(0, 0, solve(0)) + patch(solve(0)) + raw_hole(page(1, 1, [])) + solve(0)
        self.assertEqual(answers(calls), [1, -1, 1, -1, 1, -1, 1, -4])

    def test_whole_numbers_and_lists_alone(self):
        told = answers(LINE)
        self.assertIs(type(told), list)
        self.assertEqual({type(number) for number in told}, {int})

    def test_what_is_handed_in_is_not_changed(self):
        random = Random(9)
        for turn in range(20):
            calls = long_line(random)
            before = list(calls)
            told = answers(Unchanging(calls))
            self.assertEqual(answers(calls), told)
            self.assertEqual(calls, before)

    def test_nothing_is_kept(self):
        random = Random(10)
        lines = [LINE, solve(0), patch([1]), hole([(0, 0)]), cell(0, 0, 0)] + [long_line(random) for turn in range(9)]
        first = [answers(line) for line in lines]
        self.assertEqual([answers(line) for line in reversed(lines)], first[::-1])
        self.assertEqual(first[1:5], [[1, -4], [1, 0], [1, -6], [1, -4]])

    def test_what_is_given_back_is_the_askers_own(self):
        told = answers(LINE)
        told.clear()
        self.assertEqual(answers(LINE), TOLD)
