"""The whole points in a polygon, told column by column: those of one x are a column."""

from wholepointsdesk.shape import left_bends
from wholepointsdesk.whole import sum_of_floors

# What is taken from a fraction's upper number before it is divided. Less 1, what comes out is the greatest whole
# number below the fraction, so that what lies on an edge doesn't count.
WITH_EDGES = 0
WITHIN = 1


# Some columns behind one another and the edge below them. In column k of these (from 0 on) the points reach down to
# the greatest whole number in (slope k + offset) / lower, told as how far below 0.
class Stretch:
    def __init__(self, width, slope, offset, lower):
        self.width = width
        self.slope = slope
        self.offset = offset
        self.lower = lower


def columns(polygon, size, less):
    """The first and the last column of the polygon, size times as large."""
    left = min([x for x, y in polygon.corners])
    right = max([x for x, y in polygon.corners])
    return (-((-left * size - less) // polygon.scale), (right * size - less) // polygon.scale)


def stretch_above(edge, scale, size, span, less):
    """The columns from the span's first to its last, above the edge from its left to its right corner."""
    left = edge[0]
    right = edge[1]
    wide = right[0] - left[0]
    high = right[1] - left[1]
    slope = -high * scale
    offset = slope * span[0] + size * (left[0] * high - left[1] * wide) - less
    return Stretch(span[1] - span[0] + 1, slope, offset, wide * scale)


def lower_stretches(corners, scale, size, span, less):
    """The stretches above the lower edges, from left to right; each column of the span is in one of them."""
    chain = left_bends(sorted(corners))
    column = span[0]
    stretches = []
    for k in range(1, len(chain)):
        last = min(span[1], chain[k][0] * size // scale)
        # An upright edge has no column left for it, nor has one that lies between two columns.
        if column <= last:
            stretches.append(stretch_above((chain[k - 1], chain[k]), scale, size, (column, last), less))
            column = last + 1
    return stretches


def both_stretches(polygon, size, span, less):
    """Those above the lower edges, and those below the upper ones, as if the polygon were turned upside down."""
    turned = [(x, -y) for x, y in polygon.corners]
    below = lower_stretches(polygon.corners, polygon.scale, size, span, less)
    above = lower_stretches(turned, polygon.scale, size, span, less)
    return (below, above)


def how_many(polygon, size, less):
    """How many whole points are in the polygon, size times as large, with or without its edges."""
    span = columns(polygon, size, less)
    both = both_stretches(polygon, size, span, less)
    reaches = [sum_of_floors(each.width, each.slope, each.offset, each.lower) for each in both[0] + both[1]]
    # Each column has as many points as it reaches down and up from 0, and the one at 0.
    return sum(reaches) + span[1] - span[0] + 1


def points_in(polygon, size):
    """How many whole points are in the polygon, size (from 0 on) times as large."""
    return how_many(polygon, size, WITH_EDGES)


def points_within(polygon, size):
    """How many whole points are within the polygon, size (from 1 on) times as large."""
    return how_many(polygon, size, WITHIN)


def reaches_of(stretches):
    """Of each column how far it reaches."""
    reaches = []
    for each in stretches:
        reaches.extend([(each.slope * k + each.offset) // each.lower for k in range(each.width)])
    return reaches


def column_ends(polygon):
    """The lowest and the highest whole point in the polygon, of each column that has one."""
    span = columns(polygon, 1, WITH_EDGES)
    both = both_stretches(polygon, 1, span, WITH_EDGES)
    ends = []
    for k, reaches in enumerate(zip(reaches_of(both[0]), reaches_of(both[1]))):
        if -reaches[0] <= reaches[1]:
            ends.append((span[0] + k, -reaches[0]))
            ends.append((span[0] + k, reaches[1]))
    return ends
