"""A list of calls on one page, and the list of their answers."""

from seamless.calls import cut_hole, fill_hole, lay_page, lay_patch
from seamless.calls import tell_cell, tell_edge, tell_off, tell_picture, tell_solution
from seamless.grid import Page

PAGE = 0
PATCH = 1
HOLE = 2
SOLVE = 3
CELL = 4
OFF = 5
FILL = 6
EDGE = 7

# By the call's number: how many whole numbers stand behind it, and whether a row stands behind these.
WHOLE_NUMBERS = (2, 0, 0, 1, 3, 1, 1, 0, 0)
WITH_ROW = (True, True, True, False, False, True, False, False, False)


def answer_to(page, call, given, row):
    """The answer to one call, with the whole numbers and the row that it was given."""
    if call == PAGE:
        return lay_page(page, given[0], given[1], row)
    if call == PATCH:
        return lay_patch(page, row)
    if call == HOLE:
        return cut_hole(page, row)
    if call == SOLVE:
        return tell_solution(page, given[0])
    if call == CELL:
        return tell_cell(page, given[0], given[1], given[2])
    if call == OFF:
        return tell_off(page, given[0], row)
    if call == FILL:
        return fill_hole(page, given[0])
    if call == EDGE:
        return tell_edge(page)
    return tell_picture(page)


def answers(calls):
    """The answers to the calls, in order; ahead of each how many numbers it has."""
    page = Page()
    told = []
    at = 0
    while at < len(calls):
        call = calls[at]
        behind = at + 1 + WHOLE_NUMBERS[call]
        given = calls[at + 1:behind]
        row = []
        if WITH_ROW[call]:
            start = behind + 1
            behind = start + calls[behind]
            row = calls[start:behind]
        answer = answer_to(page, call, given, row)
        told.append(len(answer))
        told.extend(answer)
        at = behind
    return told
