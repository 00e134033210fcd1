"""The rule: how many whole points are in a polygon, whatever its size.

The polygon is told by the steps, so that its scale is D. The rule's numbers are told times shared, which makes all of
them whole.
"""

from wholepointsdesk.points import points_in
from wholepointsdesk.shape import twice_area


def shared(polygon):
    """What A, b and c are told times. A told so is twice the area of the polygon as it is told itself."""
    return 2 * polygon.scale * polygon.scale


def b_and_c(polygon, rest):
    """The b and c of the sizes that leave rest when divided by D, both told times shared."""
    period = polygon.scale
    area = twice_area(polygon)
    # Two numbers are sought, so two sizes tell them: the two least that leave rest.
    least = points_in(polygon, rest)
    more = points_in(polygon, rest + period) - least
    b = 2 * period * more - area * (2 * rest + period)
    c = shared(polygon) * least - area * rest * rest - b * rest
    return (b, c)


def said_of(polygon, size):
    """What the rule says of the size, perhaps one below 0, told times shared."""
    both = b_and_c(polygon, size % polygon.scale)
    return twice_area(polygon) * size * size + both[0] * size + both[1]
