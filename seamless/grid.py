"""The page and its cells. A cell is told by its place: its number in the page's order, from 0."""


class Page:
    """A page as the calls so far have left it."""

    def __init__(self):
        self.width = 1
        self.height = 1
        self.picture = [0]
        self.patch = [0]
        self.hole = []


def place_of(page, x, y):
    """The place of the cell in column x and row y; None if the page has no such cell."""
    if x >= page.width or y >= page.height:
        return None
    return y * page.width + x


def places_beside(page, place):
    """The places that have a side in common with this one, in the page's order."""
    x = place % page.width
    y = place // page.width
    beside = []
    if y > 0:
        beside.append(place - page.width)
    if x > 0:
        beside.append(place - 1)
    if x + 1 < page.width:
        beside.append(place + 1)
    if y + 1 < page.height:
        beside.append(place + page.width)
    return beside


def touches(page, place, hole):
    """Whether a cell of the hole is beside this one."""
    return any([near in hole for near in places_beside(page, place)])


def edge_of(page, hole):
    """The places of the hole's edge, in the page's order."""
    outside = [place for place in range(page.width * page.height) if place not in hole]
    return [place for place in outside if touches(page, place, hole)]
