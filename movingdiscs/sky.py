"""The calls on one sky, and what they answer."""

from movingdiscs.bodies import Body, groups_at, hiding_of, meeting_of, middle_at, view_of
from movingdiscs.instants import compared, told, whole_instant
from movingdiscs.meetings import count_behind, first_of_most, is_free_between, ordered_meetings

WRONG = -1
AS_FAR = -4
FULL = -5
NONE_LATER = -6

MOST_BODIES = 8
MOST_PLACE = 2000
MOST_PACE = 100
MOST_RADIUS = 200
MOST_FAR = 1000
MOST_INSTANT = 100000
PLACE_ADDED = 1000
PACE_ADDED = 50


def counted(numbers):
    """The numbers as a list, with how many they are before them."""
    return [len(numbers)] + numbers


def are_two(bodies, i, j):
    """Whether both bodies are there and aren't the same."""
    return i < len(bodies) and j < len(bodies) and i != j


def is_body_told_well(handed):
    """Whether the numbers told of a body are all within their bounds."""
    if handed[0] > MOST_PLACE or handed[1] > MOST_PLACE:
        return False
    if handed[2] > MOST_PACE or handed[3] > MOST_PACE:
        return False
    return 1 <= handed[4] <= MOST_RADIUS and handed[5] <= MOST_FAR


def body_told(handed):
    """The body that the numbers tell."""
    x = handed[0] - PLACE_ADDED
    y = handed[1] - PLACE_ADDED
    u = handed[2] - PACE_ADDED
    v = handed[3] - PACE_ADDED
    return Body(x, y, u, v, handed[4], handed[5])


def answer_begins(bodies, handed):
    bodies.clear()
    return [0]


def answer_body(bodies, handed):
    if not is_body_told_well(handed):
        return [WRONG]
    if len(bodies) == MOST_BODIES:
        return [FULL]
    if handed[5] in [body.far for body in bodies]:
        return [AS_FAR]
    bodies.append(body_told(handed))
    return [len(bodies) - 1]


def answer_drop(bodies, handed):
    if handed[0] >= len(bodies):
        return [WRONG]
    bodies.pop(handed[0])
    return [len(bodies)]


def answer_span(span):
    """What meets and hides answer of a span."""
    if span is None:
        return [0]
    last = [] if span.last is None else told(span.last)
    return [2 if span.already else 1] + counted(told(span.first)) + counted(last)


def answer_meets(bodies, handed):
    if not are_two(bodies, handed[0], handed[1]):
        return [WRONG]
    return answer_span(meeting_of(bodies[handed[0]], bodies[handed[1]]))


def answer_hides(bodies, handed):
    if not are_two(bodies, handed[0], handed[1]):
        return [WRONG]
    return answer_span(hiding_of(bodies[handed[0]], bodies[handed[1]]))


def answer_compare(bodies, handed):
    if not are_two(bodies, handed[0], handed[1]) or not are_two(bodies, handed[2], handed[3]):
        return [WRONG]
    one = meeting_of(bodies[handed[0]], bodies[handed[1]])
    other = meeting_of(bodies[handed[2]], bodies[handed[3]])
    if one is None or other is None:
        return [0]
    return [2 + compared(one.first, other.first)]


def answer_order(bodies, handed):
    meetings = ordered_meetings(bodies)
    rows = []
    before = None
    for meeting in meetings:
        first = meeting.span.first
        is_same = before is not None and compared(before, first) == 0
        rows.extend([meeting.lesser, meeting.greater, 1 if is_same else 0])
        before = first
    return [len(meetings)] + counted(rows)


def answer_most(bodies, handed):
    meetings = ordered_meetings(bodies)
    first = first_of_most(meetings)
    if first is None:
        return [0] + counted([])
    return [count_behind(meetings, first)] + counted(told(first))


def answer_seen(bodies, handed):
    if handed[0] > MOST_INSTANT:
        return [WRONG]
    views = [view_of(body, bodies, handed[0]) for body in bodies]
    return [views.count(0)] + counted(views)


def answer_joined(bodies, handed):
    if handed[0] > MOST_INSTANT:
        return [WRONG]
    leasts = groups_at(bodies, handed[0])
    return [len(set(leasts))] + counted(leasts)


def answer_free(bodies, handed):
    if handed[0] >= len(bodies) or handed[2] > MOST_INSTANT or handed[2] < handed[1]:
        return [WRONG]
    first = whole_instant(handed[1])
    last = whole_instant(handed[2])
    return [1 if is_free_between(bodies[handed[0]], bodies, first, last) else 0]


def answer_next(bodies, handed):
    if handed[0] > MOST_INSTANT:
        return [WRONG]
    instant = whole_instant(handed[0])
    for meeting in ordered_meetings(bodies):
        if compared(meeting.span.first, instant) > 0:
            return [0] + counted([meeting.lesser, meeting.greater]) + counted(told(meeting.span.first))
    return [NONE_LATER]


def answer_where(bodies, handed):
    if handed[0] >= len(bodies) or handed[1] > MOST_INSTANT:
        return [WRONG]
    return [0] + counted(middle_at(bodies[handed[0]], handed[1]))


# By the calls' numbers: what answers each, and how many numbers it's handed.
ACTS = (answer_begins, answer_body, answer_drop, answer_meets, answer_hides, answer_compare, answer_order,
        answer_most, answer_seen, answer_joined, answer_free, answer_next, answer_where)
SIZES = (0, 6, 1, 2, 2, 4, 0, 0, 1, 1, 3, 1, 2)


def answers(calls):
    """What the calls, one behind another on a new sky, answer: of each how many numbers, then they."""
    bodies = []
    given = []
    place = 0
    while place < len(calls):
        act = ACTS[calls[place]]
        end = place + 1 + SIZES[calls[place]]
        given.extend(counted(act(bodies, calls[place + 1:end])))
        place = end
    return given
