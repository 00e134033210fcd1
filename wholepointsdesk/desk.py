"""One polygon and two steps, what was kept of them, and the calls on them."""

from wholepointsdesk.points import column_ends, points_in, points_within
from wholepointsdesk.rule import b_and_c, said_of, shared
from wholepointsdesk.shape import corners_between, polygon_between, polygon_cut, polygon_moved, reaches_beyond
from wholepointsdesk.shape import twice_area
from wholepointsdesk.steps import led_to, polygon_by_steps
from wholepointsdesk.whole import any_beyond, crosswise, differences, lowest_terms

OUT_OF_BOUNDS = -1
WRONG_LISTS = -3
IN_ONE_LINE = -4
TOO_FINE = -5
NOTHING_KEPT = -6

FIRST_PLACES = ((0, 0), (1, 0), (1, 1), (0, 1))
FIRST_STEPS = ((1, 0), (0, 1))

MOST_KEPT = 20
MOST_Q = 6
LEAST_PLACES = 3
MOST_PLACES = 8
FARTHEST_PLACE = 12
FARTHEST_STEP = 6
FARTHEST_CUT = 20
FINEST_CUT = 1000
FARTHEST_SHIFT = 20
FARTHEST_CORNER = 100
MOST_COUNTED = 60
MOST_FAR = 1000000
LONGEST_RULE = 36


def both_have(plus, minus, count):
    """Whether each of the two lists has count numbers."""
    return len(plus) == count and len(minus) == count


def pairs(numbers):
    """The numbers two by two."""
    return [(numbers[k], numbers[k + 1]) for k in range(0, len(numbers), 2)]


# Each call gives back the list of what it answers, or of its refusal alone. It changes nothing before its last refusal
# is behind it: what's refused leaves all as it was.
class Desk:
    def __init__(self):
        self.polygon = polygon_between(1, FIRST_PLACES)
        self.steps = FIRST_STEPS
        self.kept = []

    def keep(self):
        """Keeps what is, and of all that's kept the latest alone."""
        self.kept.append((self.polygon, self.steps))
        self.kept = self.kept[-MOST_KEPT:]

    def begin(self, q, plus, minus):
        """The polygon between places told times q, and the first steps; answers how many corners."""
        if q < 1 or q > MOST_Q:
            return [OUT_OF_BOUNDS]
        if len(plus) != len(minus) or len(plus) % 2 != 0:
            return [WRONG_LISTS]
        places = pairs(differences(plus, minus))
        if len(places) < LEAST_PLACES or len(places) > MOST_PLACES:
            return [OUT_OF_BOUNDS]
        if any([any_beyond(place, FARTHEST_PLACE * q) for place in places]):
            return [OUT_OF_BOUNDS]
        polygon = polygon_between(q, places)
        if polygon is None:
            return [IN_ONE_LINE]
        self.polygon = polygon
        self.steps = FIRST_STEPS
        self.kept = []
        return [len(polygon.corners)]

    def change_steps(self, plus, minus):
        """Other steps; answers the size of their determinant."""
        if not both_have(plus, minus, 4):
            return [WRONG_LISTS]
        numbers = differences(plus, minus)
        if any_beyond(numbers, FARTHEST_STEP):
            return [OUT_OF_BOUNDS]
        steps = ((numbers[0], numbers[1]), (numbers[2], numbers[3]))
        determinant = crosswise(steps[0], steps[1])
        if determinant == 0:
            return [IN_ONE_LINE]
        self.keep()
        self.steps = steps
        return [abs(determinant)]

    def cut(self, c_plus, c_minus, plus, minus):
        """Leaves of the polygon what's on the line's one side; answers how many corners that has."""
        if not both_have(plus, minus, 2):
            return [WRONG_LISTS]
        numbers = differences(plus, minus)
        # Both parts of c are bounded by themselves, not their difference.
        if any_beyond(numbers + [c_plus, c_minus], FARTHEST_CUT):
            return [OUT_OF_BOUNDS]
        polygon = polygon_cut(self.polygon, numbers[0], numbers[1], c_plus - c_minus)
        if polygon is None:
            return [IN_ONE_LINE]
        if polygon.scale > FINEST_CUT:
            return [TOO_FINE]
        self.keep()
        self.polygon = polygon
        return [len(polygon.corners)]

    def shift(self, plus, minus):
        """Moves the polygon; answers 0."""
        if not both_have(plus, minus, 2):
            return [WRONG_LISTS]
        numbers = differences(plus, minus)
        if any_beyond(numbers, FARTHEST_SHIFT):
            return [OUT_OF_BOUNDS]
        polygon = polygon_moved(self.polygon, numbers[0], numbers[1])
        if reaches_beyond(polygon, FARTHEST_CORNER):
            return [OUT_OF_BOUNDS]
        self.keep()
        self.polygon = polygon
        return [0]

    def undo(self):
        """Takes back what was kept last; answers how many are kept then."""
        if len(self.kept) == 0:
            return [NOTHING_KEPT]
        last = self.kept[-1]
        self.kept = self.kept[:-1]
        self.polygon = last[0]
        self.steps = last[1]
        return [len(self.kept)]

    def tell_corners(self):
        """Answers how many corners there are, then x and y of each as fractions."""
        told = [len(self.polygon.corners)]
        for x, y in self.polygon.corners:
            told.extend(lowest_terms(x, self.polygon.scale))
            told.extend(lowest_terms(y, self.polygon.scale))
        return told

    def tell_area(self):
        """Answers 0, then the polygon's own area as a fraction."""
        scale = self.polygon.scale
        return [0] + lowest_terms(twice_area(self.polygon), 2 * scale * scale)

    def by_steps(self):
        """The polygon told by the steps, in which the points led to are the whole points."""
        return polygon_by_steps(self.polygon, self.steps)

    def tell_count(self, k):
        """Answers how many points led to are in the polygon k times as large."""
        if k > MOST_COUNTED:
            return [OUT_OF_BOUNDS]
        return [points_in(self.by_steps(), k)]

    def tell_inside(self, k):
        """Answers how many points led to are within the polygon k times as large."""
        if k < 1 or k > MOST_COUNTED:
            return [OUT_OF_BOUNDS]
        return [points_within(self.by_steps(), k)]

    def tell_rule(self):
        """Answers D, then A, and b and c of each rest, as fractions."""
        polygon = self.by_steps()
        if polygon.scale > LONGEST_RULE:
            return [TOO_FINE]
        told = [polygon.scale] + lowest_terms(twice_area(polygon), shared(polygon))
        for rest in range(polygon.scale):
            for number in b_and_c(polygon, rest):
                told.extend(lowest_terms(number, shared(polygon)))
        return told

    def tell_far(self, k):
        """Answers 0, then what the rule says of k and of -k, as fractions."""
        if k > MOST_FAR:
            return [OUT_OF_BOUNDS]
        polygon = self.by_steps()
        if polygon.scale > LONGEST_RULE:
            return [TOO_FINE]
        upward = lowest_terms(said_of(polygon, k), shared(polygon))
        return [0] + upward + lowest_terms(said_of(polygon, -k), shared(polygon))

    def tell_hull(self):
        """Answers how many corners the hull of the points led to has, then x and y of each."""
        ends = column_ends(self.by_steps())
        corners = corners_between([led_to(self.steps, place) for place in ends])
        told = [len(corners)]
        for corner in corners:
            told.extend(corner)
        return told
