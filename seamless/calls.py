"""The calls: each is carried out on a page and gives back its answer as a list of whole numbers."""

from seamless.equations import rounded
from seamless.grid import edge_of, place_of
from seamless.solution import off_by, picture_with, solution_of

LONGEST_SIDE = 8
MOST_HOLE_CELLS = 12
GREATEST_NUMBER = 255
GREATEST_WAY = 2


def is_side(length):
    """Whether a page may have so many columns or rows."""
    return 1 <= length and length <= LONGEST_SIDE


def refused_numbers(numbers, count):
    """The refusal of numbers that are to be one for each of count cells; 0 if there's none."""
    if len(numbers) != count:
        return -1
    if any([number > GREATEST_NUMBER for number in numbers]):
        return -2
    return 0


def lay_page(page, width, height, numbers):
    """page: a new picture, with the same numbers for its patch, and no hole."""
    if not is_side(width) or not is_side(height):
        return [-1]
    refusal = refused_numbers(numbers, width * height)
    if refusal < 0:
        return [refusal]
    page.width = width
    page.height = height
    page.picture = list(numbers)
    page.patch = list(numbers)
    page.hole = []
    return [0]


def lay_patch(page, numbers):
    """patch: new numbers for the patch alone."""
    refusal = refused_numbers(numbers, page.width * page.height)
    if refusal < 0:
        return [refusal]
    page.patch = list(numbers)
    return [0]


def hole_places(page, numbers):
    """The places of the cells told by column and row; None if they aren't a hole's as promised."""
    if len(numbers) % 2 != 0 or len(numbers) > 2 * MOST_HOLE_CELLS:
        return None
    places = []
    last = -1
    for at in range(0, len(numbers), 2):
        place = place_of(page, numbers[at], numbers[at + 1])
        if place is None or place <= last:
            return None
        places.append(place)
        last = place
    return places


def cut_hole(page, numbers):
    """hole: these cells are the hole; the answer is how many cells its edge has."""
    places = hole_places(page, numbers)
    if places is None:
        return [-1]
    edge = edge_of(page, places)
    # The page hangs together: from a piece of the hole one always comes to a cell outside, unless the
    # hole is the whole page, and only then is there a hole without an edge.
    if len(places) > 0 and len(edge) == 0:
        return [-6]
    page.hole = places
    return [len(edge)]


def refused_way(page, way):
    """The refusal of a way on this page; 0 if there's none."""
    if way > GREATEST_WAY:
        return -2
    if len(page.hole) == 0:
        return -4
    return 0


def tell_solution(page, way):
    """solve: the solution's fractions, cell by cell of the hole."""
    refusal = refused_way(page, way)
    if refusal < 0:
        return [refusal]
    answer = [0]
    for fraction in solution_of(page, way):
        answer.extend(fraction)
    return answer


def held(number):
    """The number from 0 to the greatest that a cell may have that is nearest to this one."""
    return max(0, min(GREATEST_NUMBER, number))


def tell_cell(page, way, x, y):
    """cell: one cell's fraction in the solution, rounded, and rounded and held."""
    refusal = refused_way(page, way)
    if refusal < 0:
        return [refusal]
    place = place_of(page, x, y)
    if place is None or place not in page.hole:
        return [-3]
    fraction = solution_of(page, way)[page.hole.index(place)]
    whole = rounded(fraction[0], fraction[1])
    return [0, fraction[0], fraction[1], whole, held(whole)]


def tell_off(page, way, numbers):
    """off: how much these numbers are off, one for each cell of the hole."""
    refusal = refused_way(page, way)
    if refusal < 0:
        return [refusal]
    if refused_numbers(numbers, len(page.hole)) < 0:
        return [-3]
    return [off_by(page, way, numbers)]


def fill_hole(page, way):
    """fill: the solution, rounded and held, is the picture in the hole; the answer is how much it's off."""
    refusal = refused_way(page, way)
    if refusal < 0:
        return [refusal]
    numbers = [held(rounded(fraction[0], fraction[1])) for fraction in solution_of(page, way)]
    off = off_by(page, way, numbers)
    page.picture = picture_with(page, numbers)
    return [off]


def tell_edge(page):
    """edge: how many cells it has, then the column and the row of each."""
    edge = edge_of(page, page.hole)
    answer = [len(edge)]
    for place in edge:
        answer.extend((place % page.width, place // page.width))
    return answer


def tell_picture(page):
    """cells: the picture's numbers."""
    return list(page.picture)
