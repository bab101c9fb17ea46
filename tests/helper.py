"""What the tests share: calls as lists, answers taken apart, and the document's words carried out anew."""

from fractions import Fraction
from math import floor

from seamless.pages import answers

GREATEST = 4294967295
EDGE = [7]
CELLS = [8]


def page(w, h, numbers):
    return [0, w, h, len(numbers), *numbers]


def patch(numbers):
    return [1, len(numbers), *numbers]


def hole(cells):
    """cells: pairs of column and row."""
    return raw_hole([number for cell in cells for number in cell])


def raw_hole(numbers):
    return [2, len(numbers), *numbers]


def solve(way):
    return [3, way]


def cell(way, x, y):
    return [4, way, x, y]


def off(way, numbers):
    return [5, way, len(numbers), *numbers]


def fill(way):
    return [6, way]


def ask(*calls):
    """The answers to the calls, one list each."""
    told = answers([number for call in calls for number in call])
    taken = []
    at = 0
    while at < len(told):
        count = told[at]
        taken.append(told[at + 1:at + 1 + count])
        at += 1 + count
    assert at == len(told)
    assert len(taken) == len(calls)
    return taken


def ask_last(*calls):
    """The last call's answer alone."""
    return ask(*calls)[-1]


def grid_cells(w, h):
    return [(x, y) for y in range(h) for x in range(w)]


def beside(w, h, at):
    x, y = at
    around = [(x - 1, y), (x + 1, y), (x, y - 1), (x, y + 1)]
    return [(a, b) for a, b in around if 0 <= a < w and 0 <= b < h]


def edge(w, h, cells):
    """The edge's cells, as the document says it."""
    return [at for at in grid_cells(w, h)
            if at not in cells and any(near in cells for near in beside(w, h, at))]


def is_hole(w, h, cells):
    """Whether one comes out of every cell of it, found by walking."""
    for start in cells:
        seen = [start]
        for at in seen:
            seen.extend(near for near in beside(w, h, at) if near in cells and near not in seen)
        if not any(near not in cells for at in seen for near in beside(w, h, at)):
            return False
    return True


def wanted(w, picture, patched, way, c, d):
    if way == 0:
        return 0
    c_at, d_at = c[1] * w + c[0], d[1] * w + d[0]
    of_patch = patched[c_at] - patched[d_at]
    of_picture = picture[c_at] - picture[d_at]
    if way == 2 and abs(of_picture) > abs(of_patch):
        return of_picture
    return of_patch


def fractions_of(answer):
    """The fractions of a solve's answer."""
    assert answer[0] == 0
    return [Fraction(answer[at], answer[at + 1]) for at in range(1, len(answer), 2)]


def misses(w, h, picture, patched, cells, way, values):
    """Of each cell of the hole: its differences, together, less what's wanted, together."""
    numbers = {at: Fraction(number) for at, number in zip(grid_cells(w, h), picture)}
    numbers.update(zip(cells, map(Fraction, values)))
    return [sum(numbers[c] - numbers[d] - wanted(w, picture, patched, way, c, d) for d in beside(w, h, c))
            for c in cells]


def some_page(random, greatest=255):
    """A page of any size, with a patch and a granted hole: w, h, picture, patch, cells."""
    w, h = random.choice([(a, b) for a in range(1, 9) for b in range(1, 9) if a * b > 1])
    picture = [random.randint(0, greatest) for number in range(w * h)]
    patched = [random.randint(0, greatest) for number in range(w * h)]
    count = random.randint(1, min(12, w * h - 1))
    cells = sorted(random.sample(grid_cells(w, h), count), key=lambda at: (at[1], at[0]))
    return w, h, picture, patched, cells


def off_by(w, h, picture, patched, cells, way, numbers):
    return sum(miss * miss for miss in misses(w, h, picture, patched, cells, way, numbers))


def solution(w, h, picture, patched, cells, way):
    """The solution, found by Gauss's way with fractions: unlike the program's, row by row and back."""
    # With 0 in the whole hole, what's missed are the equations' right sides; with 1 in one cell, its weights.
    zero = [0] * len(cells)
    right = misses(w, h, picture, patched, cells, way, zero)
    columns = []
    for at in range(len(cells)):
        one = misses(w, h, picture, patched, cells, way, zero[:at] + [1] + zero[at + 1:])
        columns.append([a - b for a, b in zip(one, right)])
    rows = [[column[at] for column in columns] + [-right[at]] for at in range(len(cells))]
    for at, row in enumerate(rows):
        for below in rows[at + 1:]:
            times = below[at] / row[at]
            below[:] = [a - times * b for a, b in zip(below, row)]
    values = []
    for at in reversed(range(len(cells))):
        known = sum(a * b for a, b in zip(rows[at][at + 1:-1], values))
        values.insert(0, (rows[at][-1] - known) / rows[at][at])
    return values


def rounded(value):
    return floor(value + Fraction(1, 2))


def held(number):
    return min(255, max(0, number))


class Model:
    """The document's words once more, as plainly as they stand: what each call is to answer."""

    def __init__(self):
        self.w, self.h, self.picture, self.patched, self.cells = 1, 1, [0], [0], []

    def now(self):
        return self.w, self.h, self.picture, self.patched, self.cells

    def answer(self, call):
        carried_out = (self.page, self.patch, self.hole, self.solve, self.cell, self.off, self.fill,
                       self.edge, lambda given: list(self.picture))
        return carried_out[call[0]](call[1:])

    def page(self, given):
        w, h, count, *numbers = given
        if w not in range(1, 9) or h not in range(1, 9) or count != w * h:
            return [-1]
        if max(numbers) > 255:
            return [-2]
        self.w, self.h, self.picture, self.patched, self.cells = w, h, numbers, list(numbers), []
        return [0]

    def patch(self, given):
        if given[0] != self.w * self.h:
            return [-1]
        if max(given[1:]) > 255:
            return [-2]
        self.patched = given[1:]
        return [0]

    def hole(self, given):
        cells = list(zip(given[1::2], given[2::2]))
        ordered = [at for at in grid_cells(self.w, self.h) if at in cells]
        if given[0] % 2 == 1 or given[0] > 24 or cells != ordered:
            return [-1]
        if not is_hole(self.w, self.h, cells):
            return [-6]
        self.cells = cells
        return [len(edge(self.w, self.h, cells))]

    def refusal(self, way):
        if way > 2:
            return [-2]
        return [] if self.cells else [-4]

    def solve(self, given):
        told = [0]
        if not self.refusal(given[0]):
            for value in solution(*self.now(), given[0]):
                told.extend(value.as_integer_ratio())
        return self.refusal(given[0]) or told

    def cell(self, given):
        way, x, y = given
        if self.refusal(way) or (x, y) not in self.cells:
            return self.refusal(way) or [-3]
        value = solution(*self.now(), way)[self.cells.index((x, y))]
        return [0, *value.as_integer_ratio(), rounded(value), held(rounded(value))]

    def off(self, given):
        way, count, *numbers = given
        if self.refusal(way) or count != len(self.cells) or max(numbers) > 255:
            return self.refusal(way) or [-3]
        return [int(off_by(*self.now(), way, numbers))]

    def fill(self, given):
        if self.refusal(given[0]):
            return self.refusal(given[0])
        numbers = [held(rounded(value)) for value in solution(*self.now(), given[0])]
        told = int(off_by(*self.now(), given[0], numbers))
        for (x, y), number in zip(self.cells, numbers):
            self.picture[y * self.w + x] = number
        return [told]

    def edge(self, given):
        cells = edge(self.w, self.h, self.cells)
        return [len(cells), *[number for at in cells for number in at]]


def numbers_of(random, count, greatest):
    return [random.randint(0, greatest) for number in range(count)]


def some_call(random, model):
    """A call that is granted, if there's a hole."""
    w, h, picture, patched, cells = model.now()
    greatest = random.choice((1, 9, 255))
    way = random.randint(0, 2)
    kind = random.choice((0, 1, 1, 2, 2, 3, 3, 4, 4, 5, 5, 5, 6, 6, 6, 7, 7, 8, 8, 8))
    if kind == 0:
        w, h = random.randint(1, 8), random.randint(1, 8)
        return page(w, h, numbers_of(random, w * h, greatest))
    if kind == 1:
        return patch(numbers_of(random, w * h, greatest))
    if kind == 2:
        count = random.randint(0, min(12, w * h))
        return hole(sorted(random.sample(grid_cells(w, h), count), key=lambda at: (at[1], at[0])))
    if kind == 4:
        return cell(way, *random.choice(cells or [(0, 0)]))
    if kind == 5:
        return off(way, numbers_of(random, len(cells), greatest))
    return [[3, way], [], [], [6, way], EDGE, CELLS][kind - 3]


def wrong_call(random, model):
    """A call that is refused, for the most part."""
    w, h, picture, patched, cells = model.now()
    number = random.choice((256, 257, GREATEST))
    way = random.choice((0, 1, 2, 3, GREATEST))
    makers = (lambda: page(random.choice((0, w, 9, GREATEST)), h, [number] * (w * h)),
              lambda: page(w, h, numbers_of(random, random.randint(0, 70), 255)),
              lambda: patch(numbers_of(random, random.randint(0, 70), 256)),
              lambda: patch([255] * (w * h - 1) + [number]),
              lambda: raw_hole(numbers_of(random, random.randint(0, 30), 9)),
              lambda: hole(grid_cells(w, h)[:15]),
              lambda: solve(random.choice((3, 4, GREATEST))),
              lambda: cell(way, random.randint(0, 9), random.choice((0, 1, GREATEST))),
              lambda: off(way, numbers_of(random, random.randint(0, 16), 256)),
              lambda: off(way, [255] * (len(cells) - 1) + [number]),
              lambda: fill(random.choice((3, 4, GREATEST))))
    return random.choice(makers)()


def some_line(random):
    """Forty calls, granted and refused, and what each is to answer."""
    model = Model()
    calls = []
    asked = []
    w, h, picture, patched, cells = some_page(random)
    for call in random.choice(([page(w, h, picture), patch(patched), hole(cells)],) * 4 + ([],)):
        calls.append(call)
        asked.append(model.answer(call))
    while len(calls) < 40:
        call = (some_call if random.random() < 0.8 else wrong_call)(random, model)
        calls.append(call)
        asked.append(model.answer(call))
    return calls, asked
