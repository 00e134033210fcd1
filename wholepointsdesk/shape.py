"""Polygons with fractions as their corners' numbers, in whole numbers throughout."""

from wholepointsdesk.whole import any_beyond, common_divisor, common_multiple, crosswise


# A polygon is never changed once it is made, so that keeping one needs no copy. Its corners are told times scale, the
# least number by which they become whole, so that scale alone shows how fine a polygon is.
class Polygon:
    def __init__(self, scale, corners):
        self.scale = scale
        self.corners = corners


def turn(start, middle, end):
    """Above 0 if the way over middle bends to the left, below 0 if to the right, 0 if it stays in one line."""
    return crosswise((middle[0] - start[0], middle[1] - start[1]), (end[0] - start[0], end[1] - start[1]))


def left_bends(places):
    """The two ends of the ordered places, and between them the bends of the way that leaves all on its left."""
    chain = []
    for place in places:
        while len(chain) >= 2 and turn(chain[-2], chain[-1], place) <= 0:
            chain.pop()
        chain.append(place)
    return chain


def corners_between(places):
    """The corners of all that lies between the places, in order: of places all in one line the two ends, of one place
    this, of none nothing.
    """
    ordered = sorted(set(places))
    if len(ordered) == 1:
        return ordered
    below = left_bends(ordered)
    above = left_bends(list(reversed(ordered)))
    # Each half ends where the other begins.
    return below[:-1] + above[:-1]


def polygon_between(scale, places):
    """The polygon between places told times scale; None if all are in one line."""
    corners = corners_between(places)
    if len(corners) < 3:
        return None
    spare = scale
    for x, y in corners:
        spare = common_divisor(spare, common_divisor(x, y))
    return Polygon(scale // spare, [(x // spare, y // spare) for x, y in corners])


def crossing(start, start_excess, end, end_excess):
    """Where the way from start to end meets the line: x, y, and how many times too large both are told.

    The excesses, one above 0 and one below, say how far start and end lie beyond the line.
    """
    times = end_excess - start_excess
    sign = 1 if times > 0 else -1
    x = start[0] * end_excess - end[0] * start_excess
    y = start[1] * end_excess - end[1] * start_excess
    return (sign * x, sign * y, sign * times)


def left_by_cut(polygon, a, b, c):
    """The places between which lies what is left: of each x, y, and how many times too large both are told."""
    corners = polygon.corners
    excesses = [a * x + b * y - c * polygon.scale for x, y in corners]
    left = []
    for k in range(len(corners)):
        # At k = 0 the corner before is the last one.
        if excesses[k - 1] * excesses[k] < 0:
            left.append(crossing(corners[k - 1], excesses[k - 1], corners[k], excesses[k]))
        if excesses[k] <= 0:
            left.append((corners[k][0], corners[k][1], 1))
    return left


def polygon_cut(polygon, a, b, c):
    """What is left of the polygon where a x + b y is no more than c; None if that is no polygon."""
    left = left_by_cut(polygon, a, b, c)
    shared = 1
    for x, y, times in left:
        shared = common_multiple(shared, times)
    places = [(x * (shared // times), y * (shared // times)) for x, y, times in left]
    return polygon_between(polygon.scale * shared, places)


def polygon_moved(polygon, right, up):
    """The polygon moved by whole numbers, which leave its scale and its corners' order as they are."""
    scale = polygon.scale
    return Polygon(scale, [(x + right * scale, y + up * scale) for x, y in polygon.corners])


def reaches_beyond(polygon, bound):
    """Whether one of the corners' own numbers is farther from 0 than bound."""
    return any([any_beyond(corner, bound * polygon.scale) for corner in polygon.corners])


def twice_area(polygon):
    """Twice the area between the corners as they are told: 2 scale scale times the polygon's own area."""
    corners = polygon.corners
    return sum([crosswise(corners[k - 1], corners[k]) for k in range(len(corners))])
