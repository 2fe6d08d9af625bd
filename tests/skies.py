"""What the tests share: calls written as words, answers told apart, and a second reckoning."""

from decimal import Decimal, localcontext

from movingdiscs.sky import answers

GREATEST = 4294967295

BEGINS = [0]
ORDER = [6]

# Two different firsts within these bounds are never so near to one another: the roots' conjugates
# bound them from below by about 1e-50.
SAME = Decimal("1e-100")


def told_body(x, y, u, v, r, far):
    """The call body, with what's told as it stands."""
    return [1, x, y, u, v, r, far]


def body(x, y, u, v, r, far):
    """The call body, with x, y, u and v as they are in the sky."""
    return told_body(x + 1000, y + 1000, u + 50, v + 50, r, far)


def drop(number):
    return [2, number]


def meets(one, other):
    return [3, one, other]


def hides(i, j):
    return [4, i, j]


def compare(i, j, k, l):
    return [5, i, j, k, l]


def apart(given):
    """The answers, each a list of its own."""
    found = []
    place = 0
    while place < len(given):
        count = given[place]
        answer = given[place + 1:place + 1 + count]
        assert len(answer) == count and count > 0, given
        found.append(answer)
        place += 1 + count
    return found


def run(*calls):
    """The answers of the calls, each a list of its own."""
    found = apart(answers([number for call in calls for number in call]))
    assert len(found) == len(calls), found
    return found


def last_of(*calls):
    """The answer of the last call alone."""
    return run(*calls)[-1]


def pair(dx, dy, du, dv, reach, far):
    """Two bodies, the second dx, dy from the first and going by du, dv against it; their radii together are reach."""
    x, y, u, v = dx // 2, dy // 2, du // 2, dv // 2
    radius = reach // 2
    return [body(-x, -y, -u, -v, radius, far), body(dx - x, dy - y, du - u, dv - v, reach - radius, far + 1)]


def roots(one, other, reach):
    """The two numbers at which the middles are just reach apart, or None; one and other are (x, y, u, v)."""
    dx, dy, du, dv = [b - a for a, b in zip(one, other)]
    pace = du * du + dv * dv
    if pace == 0:
        return None
    nearest = Decimal(-(dx * du + dy * dv)) / pace
    aside = (dx * dv - dy * du) ** 2
    room = reach * reach * pace - aside
    if room < 0:
        return None
    half = Decimal(room).sqrt() / pace
    return nearest - half, nearest + half


def reckoned_span(one, other, reach, closed):
    """None, or (already, first, last) reckoned with 200 digits; last is None if there's none."""
    with localcontext() as context:
        context.prec = 200
        dx, dy = other[0] - one[0], other[1] - one[1]
        gap = dx * dx + dy * dy - reach * reach
        already = gap <= 0 if closed else gap < 0
        if one[2:] == other[2:]:
            return (True, Decimal(0), None) if already else None
        ends = roots(one, other, reach)
        if ends is None:
            return None
        low, high = ends
        if not closed and (high - low < SAME or high < SAME):
            return None
        if high < -SAME:
            return None
        return already, max(low, Decimal(0)), high


def reckoned_told(instant):
    """An instant of reckoned_span, told."""
    with localcontext() as context:
        context.prec = 200
        nearest = int(instant.to_integral_value())
        if abs(instant - nearest) < SAME:
            return [nearest, 1]
        return [int(instant // 1), 0]


def reckoned_answer(span):
    """What meets and hides are to answer of a reckoned span."""
    if span is None:
        return [0]
    already, first, last = span
    last_told = [] if last is None else reckoned_told(last)
    return [2 if already else 1, 2] + reckoned_told(first) + [len(last_told)] + last_told


def reckoned_compared(one, other):
    """-1, 0 or 1, as the one reckoned instant is earlier than the other, the same or later."""
    with localcontext() as context:
        context.prec = 200
        gap = one - other
        if abs(gap) < SAME:
            return 0
        return 1 if gap > 0 else -1


class Numbers:
    """Whole numbers that look strewn, and are the same every time."""

    def __init__(self, seed):
        self.state = seed

    def between(self, low, high):
        self.state = (self.state * 6364136223846793005 + 1442695040888963407) % 2 ** 64
        return low + (self.state >> 33) % (high - low + 1)


def strewn_bodies(numbers, count, place, pace, radius):
    """Bodies told as (x, y, u, v, r), within the bounds handed over."""
    return [
        (numbers.between(-place, place), numbers.between(-place, place),
         numbers.between(-pace, pace), numbers.between(-pace, pace), numbers.between(1, radius))
        for number in range(count)
    ]


def strewn_pair(numbers, place, pace, radius):
    """Two such bodies; most of those that would only go apart have their ways exchanged, so that more pairs meet."""
    one, other = strewn_bodies(numbers, 2, place, pace, radius)
    dx, dy, du, dv = [b - a for a, b in zip(one[:4], other[:4])]
    if dx * du + dy * dv > 0 and numbers.between(0, 3) > 0:
        return [one[:2] + other[2:4] + one[4:], other[:2] + one[2:4] + other[4:]]
    return [one, other]
