"""A line of calls on one polygon and two steps, handed in as one list of whole numbers."""

from wholepointsdesk.desk import Desk

BEGIN = 1
STEPS = 2
CUT = 3
SHIFT = 4
UNDO = 5
CORNERS = 6
AREA = 7
COUNT = 8
INSIDE = 9
RULE = 10
FAR = 11

# Of each call: how many whole numbers it has, then how many rows.
FORMS = {
    1: (1, 2), 2: (0, 2), 3: (2, 2), 4: (0, 2), 5: (0, 0), 6: (0, 0),
    7: (0, 0), 8: (1, 0), 9: (1, 0), 10: (0, 0), 11: (1, 0), 12: (0, 0),
}


def read_call(numbers, start):
    """The call that begins at start: its whole numbers, its rows, and where the next call begins."""
    form = FORMS[numbers[start]]
    at = start + 1 + form[0]
    wholes = numbers[start + 1:at]
    rows = []
    while len(rows) < form[1]:
        end = at + 1 + numbers[at]
        rows.append(numbers[at + 1:end])
        at = end
    return (wholes, rows, at)


def ask(desk, call, wholes, rows):
    """What the desk answers to the call."""
    if call == BEGIN:
        return desk.begin(wholes[0], rows[0], rows[1])
    if call == STEPS:
        return desk.change_steps(rows[0], rows[1])
    if call == CUT:
        return desk.cut(wholes[0], wholes[1], rows[0], rows[1])
    if call == SHIFT:
        return desk.shift(rows[0], rows[1])
    if call == UNDO:
        return desk.undo()
    return ask_about(desk, call, wholes)


def ask_about(desk, call, wholes):
    """What the desk answers to a call that changes nothing; to the one that's left, hull, at the end."""
    if call == CORNERS:
        return desk.tell_corners()
    if call == AREA:
        return desk.tell_area()
    if call == COUNT:
        return desk.tell_count(wholes[0])
    if call == INSIDE:
        return desk.tell_inside(wholes[0])
    if call == RULE:
        return desk.tell_rule()
    if call == FAR:
        return desk.tell_far(wholes[0])
    return desk.tell_hull()


def answers(calls):
    """For each call in order: how many numbers are answered, then these."""
    desk = Desk()
    given = []
    at = 0
    while at < len(calls):
        call = read_call(calls, at)
        answer = ask(desk, calls[at], call[0], call[1])
        given.append(len(answer))
        given.extend(answer)
        at = call[2]
    return given
