"""A line of calls on one polygon and two steps, handed in as one list of whole numbers."""

from wholepointsdesk.desk import Desk

BEGIN = 1
STEPS = 2
CUT = 3
SHIFT = 4
UNDO = 5

# Of each call: how many whole numbers it has, then how many rows.
FORMS = {1: (1, 2), 2: (0, 2), 3: (2, 2), 4: (0, 2), 5: (0, 0), 6: (0, 0)}


def read_call(numbers, start):
    """The call that begins at start: its whole numbers, its rows, and where the next call begins."""
    form = FORMS[numbers[start]]
    at = start + 1 + form[0]
    wholes = numbers[start + 1:at]
    rows = []
    while len(rows) < form[1]:
        end = at + 1 + numbers[at]
        rows.append(numbers[at + 1:end])
        at = end
    return (wholes, rows, at)


def ask(desk, call, wholes, rows):
    """What the desk answers to the call; to the one that's left, corners, at the end."""
    if call == BEGIN:
        return desk.begin(wholes[0], rows[0], rows[1])
    if call == STEPS:
        return desk.change_steps(rows[0], rows[1])
    if call == CUT:
        return desk.cut(wholes[0], wholes[1], rows[0], rows[1])
    if call == SHIFT:
        return desk.shift(rows[0], rows[1])
    if call == UNDO:
        return desk.undo()
    return desk.tell_corners()


def answers(calls):
    """For each call in order: how many numbers are answered, then these."""
    desk = Desk()
    given = []
    at = 0
    while at < len(calls):
        call = read_call(calls, at)
        answer = ask(desk, calls[at], call[0], call[1])
        given.append(len(answer))
        given.extend(answer)
        at = call[2]
    return given
