"""The bodies: where they are, and when one lies over another or hides it."""

from movingdiscs.instants import span_of


class Body:
    """A disc: where its middle is at the instant 0, how that goes on, its radius, how far off it is."""

    def __init__(self, x, y, u, v, radius, far):
        self.x = x
        self.y = y
        self.u = u
        self.v = v
        self.radius = radius
        self.far = far


def middle_at(body, instant):
    """Where the body's middle is at a whole instant."""
    return [body.x + body.u * instant, body.y + body.v * instant]


def is_nearer(one, other):
    """Whether the one body is less far off than the other."""
    return one.far < other.far


def may_hide(one, other):
    """Whether the one body is such as to hide the other, wherever they are."""
    return is_nearer(one, other) and one.radius >= other.radius


def span_within(one, other, reach, with_edge):
    """The instants at which two middles are less far apart than reach; with with_edge, or just so far."""
    dx = other.x - one.x
    dy = other.y - one.y
    du = other.u - one.u
    dv = other.v - one.v
    rest = dx * dx + dy * dy - reach * reach
    return span_of(du * du + dv * dv, dx * du + dy * dv, rest, with_edge)


def meeting_of(one, other):
    """The instants at which two bodies lie over one another, or None."""
    return span_within(one, other, one.radius + other.radius, False)


def hiding_of(one, other):
    """The instants at which the one body hides the other, or None."""
    if not may_hide(one, other):
        return None
    return span_within(one, other, one.radius - other.radius, True)


def square_apart_at(one, other, instant):
    """The square of how far two middles are apart at a whole instant."""
    here = middle_at(one, instant)
    there = middle_at(other, instant)
    dx = there[0] - here[0]
    dy = there[1] - here[1]
    return dx * dx + dy * dy


def lie_over_at(one, other, instant):
    """Whether two bodies lie over one another at a whole instant."""
    reach = one.radius + other.radius
    return square_apart_at(one, other, instant) < reach * reach


def hides_at(one, other, instant):
    """Whether the one body hides the other at a whole instant."""
    reach = one.radius - other.radius
    return may_hide(one, other) and square_apart_at(one, other, instant) <= reach * reach


def view_of(body, bodies, instant):
    """2 if one of the bodies hides the body at a whole instant; else 1 if a nearer one lies over it; else 0."""
    view = 0
    for other in bodies:
        if hides_at(other, body, instant):
            return 2
        if is_nearer(other, body) and lie_over_at(other, body, instant):
            view = 1
    return view


def groups_at(bodies, instant):
    """Of each body the least number of its group at a whole instant."""
    leasts = list(range(len(bodies)))
    for lesser in range(len(bodies)):
        for greater in range(lesser + 1, len(bodies)):
            if lie_over_at(bodies[lesser], bodies[greater], instant):
                leasts = joined_groups(leasts, leasts[lesser], leasts[greater])
    return leasts


def joined_groups(leasts, one, other):
    """The leasts, with the two groups that have the leasts one and other made into one."""
    return [min(one, other) if least in (one, other) else least for least in leasts]
