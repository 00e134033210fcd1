"""Places told by two steps: how often each of them leads there."""

from wholepointsdesk.shape import polygon_between
from wholepointsdesk.whole import crosswise


def polygon_by_steps(polygon, steps):
    """The polygon told by the steps. Its scale is the D of the document."""
    determinant = crosswise(steps[0], steps[1])
    sign = 1 if determinant > 0 else -1
    places = [(sign * crosswise(corner, steps[1]), sign * crosswise(steps[0], corner)) for corner in polygon.corners]
    # The corners' order is found anew: it is another one, and a determinant below 0 turns them round.
    return polygon_between(polygon.scale * abs(determinant), places)


def led_to(steps, place):
    """The own x and y of a place that is told by the steps."""
    x = place[0] * steps[0][0] + place[1] * steps[1][0]
    y = place[0] * steps[0][1] + place[1] * steps[1][1]
    return (x, y)
