"""What the tests share: calls as lists, answers taken apart, and the document's equations asked anew."""

from fractions import Fraction

from seamless.pages import answers

GREATEST = 4294967295


def page(w, h, numbers):
    return [0, w, h, len(numbers), *numbers]


def patch(numbers):
    return [1, len(numbers), *numbers]


def hole(cells):
    """cells: pairs of column and row."""
    return raw_hole([number for cell in cells for number in cell])


def raw_hole(numbers):
    return [2, len(numbers), *numbers]


def solve(way):
    return [3, way]


def cell(way, x, y):
    return [4, way, x, y]


def ask(*calls):
    """The answers to the calls, one list each."""
    told = answers([number for call in calls for number in call])
    taken = []
    at = 0
    while at < len(told):
        count = told[at]
        taken.append(told[at + 1:at + 1 + count])
        at += 1 + count
    assert at == len(told)
    assert len(taken) == len(calls)
    return taken


def ask_last(*calls):
    """The last call's answer alone."""
    return ask(*calls)[-1]


def grid_cells(w, h):
    return [(x, y) for y in range(h) for x in range(w)]


def beside(w, h, at):
    x, y = at
    around = [(x - 1, y), (x + 1, y), (x, y - 1), (x, y + 1)]
    return [(a, b) for a, b in around if 0 <= a < w and 0 <= b < h]


def edge(w, h, cells):
    """The edge's cells, as the document says it."""
    return [at for at in grid_cells(w, h)
            if at not in cells and any(near in cells for near in beside(w, h, at))]


def is_hole(w, h, cells):
    """Whether one comes out of every cell of it, found by walking."""
    for start in cells:
        seen = [start]
        for at in seen:
            seen.extend(near for near in beside(w, h, at) if near in cells and near not in seen)
        if not any(near not in cells for at in seen for near in beside(w, h, at)):
            return False
    return True


def wanted(w, picture, patched, way, c, d):
    if way == 0:
        return 0
    c_at, d_at = c[1] * w + c[0], d[1] * w + d[0]
    of_patch = patched[c_at] - patched[d_at]
    of_picture = picture[c_at] - picture[d_at]
    if way == 2 and abs(of_picture) > abs(of_patch):
        return of_picture
    return of_patch


def fractions_of(answer):
    """The fractions of a solve's answer."""
    assert answer[0] == 0
    return [Fraction(answer[at], answer[at + 1]) for at in range(1, len(answer), 2)]


def misses(w, h, picture, patched, cells, way, values):
    """Of each cell of the hole: its differences, together, less what's wanted, together."""
    numbers = {at: Fraction(number) for at, number in zip(grid_cells(w, h), picture)}
    numbers.update(zip(cells, values))
    return [sum(numbers[c] - numbers[d] - wanted(w, picture, patched, way, c, d) for d in beside(w, h, c))
            for c in cells]


def some_page(random, greatest=255):
    """A page of any size, with a patch and a granted hole: w, h, picture, patch, cells."""
    w, h = random.choice([(a, b) for a in range(1, 9) for b in range(1, 9) if a * b > 1])
    picture = [random.randint(0, greatest) for number in range(w * h)]
    patched = [random.randint(0, greatest) for number in range(w * h)]
    count = random.randint(1, min(12, w * h - 1))
    cells = sorted(random.sample(grid_cells(w, h), count), key=lambda at: (at[1], at[0]))
    return w, h, picture, patched, cells
