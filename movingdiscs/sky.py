"""The calls on one sky, and what they answer."""

from movingdiscs.instants import compared, span_of, told

WRONG = -1
AS_FAR = -4
FULL = -5

MOST_BODIES = 8
MOST_PLACE = 2000
MOST_PACE = 100
MOST_RADIUS = 200
MOST_FAR = 1000
PLACE_ADDED = 1000
PACE_ADDED = 50


class Body:
    """A disc: where its middle is at the instant 0, how that goes on, its radius, how far off it is."""

    def __init__(self, x, y, u, v, radius, far):
        self.x = x
        self.y = y
        self.u = u
        self.v = v
        self.radius = radius
        self.far = far


def counted(numbers):
    """The numbers as a list, with how many they are before them."""
    return [len(numbers)] + numbers


def span_within(one, other, reach, with_edge):
    """The instants at which two middles are less far apart than reach; with with_edge, or just so far."""
    dx = other.x - one.x
    dy = other.y - one.y
    du = other.u - one.u
    dv = other.v - one.v
    rest = dx * dx + dy * dy - reach * reach
    return span_of(du * du + dv * dv, dx * du + dy * dv, rest, with_edge)


def meeting_of(one, other):
    """The instants at which two bodies lie over one another, or None."""
    return span_within(one, other, one.radius + other.radius, False)


def hiding_of(one, other):
    """The instants at which the one body hides the other, or None."""
    reach = one.radius - other.radius
    if one.far > other.far or reach < 0:
        return None
    return span_within(one, other, reach, True)


def are_two(bodies, i, j):
    """Whether both bodies are there and aren't the same."""
    return i < len(bodies) and j < len(bodies) and i != j


def insert_meeting(meetings, meeting):
    """Puts the meeting behind all whose first isn't later: so those of one instant stay as they came."""
    place = len(meetings)
    while place > 0 and compared(meetings[place - 1][2], meeting[2]) > 0:
        place -= 1
    meetings.insert(place, meeting)


def ordered_meetings(bodies):
    """All meetings by their firsts, each as the lesser body, the other one and the first."""
    meetings = []
    for lesser in range(len(bodies)):
        for greater in range(lesser + 1, len(bodies)):
            span = meeting_of(bodies[lesser], bodies[greater])
            if span is not None:
                insert_meeting(meetings, (lesser, greater, span.first))
    return meetings


def is_body_told_well(handed):
    """Whether the numbers told of a body are all within their bounds."""
    if handed[0] > MOST_PLACE or handed[1] > MOST_PLACE:
        return False
    if handed[2] > MOST_PACE or handed[3] > MOST_PACE:
        return False
    return 1 <= handed[4] <= MOST_RADIUS and handed[5] <= MOST_FAR


def body_told(handed):
    """The body that the numbers tell."""
    x = handed[0] - PLACE_ADDED
    y = handed[1] - PLACE_ADDED
    u = handed[2] - PACE_ADDED
    v = handed[3] - PACE_ADDED
    return Body(x, y, u, v, handed[4], handed[5])


def answer_begins(bodies, handed):
    bodies.clear()
    return [0]


def answer_body(bodies, handed):
    if not is_body_told_well(handed):
        return [WRONG]
    if len(bodies) == MOST_BODIES:
        return [FULL]
    if handed[5] in [body.far for body in bodies]:
        return [AS_FAR]
    bodies.append(body_told(handed))
    return [len(bodies) - 1]


def answer_drop(bodies, handed):
    if handed[0] >= len(bodies):
        return [WRONG]
    bodies.pop(handed[0])
    return [len(bodies)]


def answer_span(span):
    """What meets and hides answer of a span."""
    if span is None:
        return [0]
    last = [] if span.last is None else told(span.last)
    return [2 if span.already else 1] + counted(told(span.first)) + counted(last)


def answer_meets(bodies, handed):
    if not are_two(bodies, handed[0], handed[1]):
        return [WRONG]
    return answer_span(meeting_of(bodies[handed[0]], bodies[handed[1]]))


def answer_hides(bodies, handed):
    if not are_two(bodies, handed[0], handed[1]):
        return [WRONG]
    return answer_span(hiding_of(bodies[handed[0]], bodies[handed[1]]))


def answer_compare(bodies, handed):
    if not are_two(bodies, handed[0], handed[1]) or not are_two(bodies, handed[2], handed[3]):
        return [WRONG]
    one = meeting_of(bodies[handed[0]], bodies[handed[1]])
    other = meeting_of(bodies[handed[2]], bodies[handed[3]])
    if one is None or other is None:
        return [0]
    return [2 + compared(one.first, other.first)]


def answer_order(bodies, handed):
    meetings = ordered_meetings(bodies)
    rows = []
    before = None
    for meeting in meetings:
        is_same = before is not None and compared(before, meeting[2]) == 0
        rows.extend([meeting[0], meeting[1], 1 if is_same else 0])
        before = meeting[2]
    return [len(meetings)] + counted(rows)


# By the calls' numbers: what answers each, and how many numbers it's handed.
ACTS = (answer_begins, answer_body, answer_drop, answer_meets, answer_hides, answer_compare, answer_order)
SIZES = (0, 6, 1, 2, 2, 4, 0)


def answers(calls):
    """What the calls, one behind another on a new sky, answer: of each how many numbers, then they."""
    bodies = []
    given = []
    place = 0
    while place < len(calls):
        act = ACTS[calls[place]]
        end = place + 1 + SIZES[calls[place]]
        given.extend(counted(act(bodies, calls[place + 1:end])))
        place = end
    return given
