"""The meetings of a sky: their order, and how many there are at once."""

from movingdiscs.bodies import is_nearer, meeting_of
from movingdiscs.instants import compared, has_instants_between


class Meeting:
    """The two bodies' numbers, the lesser first, and the instants at which they lie over one another."""

    def __init__(self, lesser, greater, span):
        self.lesser = lesser
        self.greater = greater
        self.span = span


def insert_meeting(meetings, meeting):
    """Puts the meeting behind all whose first isn't later: so those of one instant stay as they came."""
    place = len(meetings)
    while place > 0 and compared(meetings[place - 1].span.first, meeting.span.first) > 0:
        place -= 1
    meetings.insert(place, meeting)


def ordered_meetings(bodies):
    """All meetings by their firsts; of one instant by the lesser body, then by the other one."""
    meetings = []
    for lesser in range(len(bodies)):
        for greater in range(lesser + 1, len(bodies)):
            span = meeting_of(bodies[lesser], bodies[greater])
            if span is not None:
                insert_meeting(meetings, Meeting(lesser, greater, span))
    return meetings


def goes_on_behind(span, instant):
    """Whether the span, an end of which doesn't belong to it, has the instants that are just behind the instant."""
    if compared(span.first, instant) > 0:
        return False
    return span.last is None or compared(span.last, instant) > 0


def count_behind(meetings, instant):
    """How many of the meetings there are at the instants just behind the instant."""
    return len([meeting for meeting in meetings if goes_on_behind(meeting.span, instant)])


def first_of_most(meetings):
    """The first, of the ordered meetings' firsts, just behind which most meetings are; None if there's no meeting.

    The ends of a meeting don't belong to it, but the instant 0 if it has begun already: so whatever is at once
    at an instant is so ever since the latest of its firsts, and no other instants are to be looked at.
    """
    best = None
    most = 0
    for meeting in meetings:
        count = count_behind(meetings, meeting.span.first)
        if count > most:
            most = count
            best = meeting.span.first
    return best


def is_free_between(body, bodies, first, last):
    """Whether none of the bodies that's nearer lies over the body at an instant from first to last."""
    for other in bodies:
        if is_nearer(other, body):
            span = meeting_of(other, body)
            if span is not None and has_instants_between(span, first, last):
                return False
    return True
