"""The solution: the numbers for the hole's cells that keep what's wanted and meet the picture around."""

from seamless.equations import solved
from seamless.grid import places_beside


def wanted(page, way, here, there):
    """The difference that is wanted from one cell to another beside it."""
    if way == 0:
        return 0
    patch_step = page.patch[here] - page.patch[there]
    picture_step = page.picture[here] - page.picture[there]
    if way == 2 and abs(picture_step) > abs(patch_step):
        return picture_step
    return patch_step


def weight(place, other, beside):
    """How often the number of the other cell stands in the equation of the cell at place."""
    if other == place:
        return len(beside)
    if other in beside:
        return -1
    return 0


def equation(page, way, place):
    """The equation of one cell of the hole: a weight for each cell of the hole, then what they come to."""
    beside = places_beside(page, place)
    row = [weight(place, other, beside) for other in page.hole]
    around = sum([page.picture[near] for near in beside if near not in page.hole])
    row.append(around + sum([wanted(page, way, place, near) for near in beside]))
    return row


def solution_of(page, way):
    """The solution's fractions, one for each cell of the hole, in order."""
    # A hole that is granted touches cells outside it with every piece, which makes the weights
    # positive definite, as solved needs them.
    return solved([equation(page, way, place) for place in page.hole])


def picture_with(page, numbers):
    """The picture's numbers with these in the hole, one for each of its cells, in order."""
    picture = list(page.picture)
    for place, number in zip(page.hole, numbers):
        picture[place] = number
    return picture


def off_by(page, way, numbers):
    """How much these numbers are off, one for each cell of the hole, in order."""
    picture = picture_with(page, numbers)
    squares = 0
    for place in page.hole:
        # What's wanted is asked of the page, not of the picture with these numbers: in way 2 it looks at
        # the picture's differences as they are ahead of the call.
        missed = sum([picture[place] - picture[near] - wanted(page, way, place, near)
                      for near in places_beside(page, place)])
        squares += missed * missed
    return squares
