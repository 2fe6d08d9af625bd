"""What the tests share: calls written as words, answers told apart, and a second reckoning.

The second reckoning has 200 digits, finds what holds at an instant from the spans, and looks between all ends of
the spans for what holds somewhere: another way than the program's at each step.
"""

import functools
from decimal import Decimal, localcontext

from movingdiscs.sky import answers

GREATEST = 4294967295

BEGINS = [0]
ORDER = [6]
MOST = [7]

# Two different firsts within these bounds are never so near to one another: the roots' conjugates
# bound them from below by about 1e-50.
SAME = Decimal("1e-100")


def told_body(x, y, u, v, r, far):
    """The call body, with what's told as it stands."""
    return [1, x, y, u, v, r, far]


def body(x, y, u, v, r, far):
    """The call body, with x, y, u and v as they are in the sky."""
    return told_body(x + 1000, y + 1000, u + 50, v + 50, r, far)


def drop(number):
    return [2, number]


def meets(one, other):
    return [3, one, other]


def hides(i, j):
    return [4, i, j]


def compare(i, j, k, l):
    return [5, i, j, k, l]


def seen(instant):
    return [8, instant]


def joined(instant):
    return [9, instant]


def free(number, first, last):
    return [10, number, first, last]


def next_one(instant):
    return [11, instant]


def where(number, instant):
    return [12, number, instant]


def flat(calls):
    """The calls, one behind another in one list."""
    return [number for call in calls for number in call]


def apart(given):
    """The answers, each a list of its own."""
    found = []
    place = 0
    while place < len(given):
        count = given[place]
        answer = given[place + 1:place + 1 + count]
        assert len(answer) == count and count > 0, given
        found.append(answer)
        place += 1 + count
    return found


def run(*calls):
    """The answers of the calls, each a list of its own."""
    found = apart(answers(flat(calls)))
    assert len(found) == len(calls), found
    return found


def last_of(*calls):
    """The answer of the last call alone."""
    return run(*calls)[-1]


def pair(dx, dy, du, dv, reach, far):
    """Two bodies, the second dx, dy from the first and going by du, dv against it; their radii together are reach."""
    x, y, u, v = dx // 2, dy // 2, du // 2, dv // 2
    radius = reach // 2
    return [body(-x, -y, -u, -v, radius, far), body(dx - x, dy - y, du - u, dv - v, reach - radius, far + 1)]


def roots(one, other, reach):
    """The two numbers at which the middles are just reach apart, or None; one and other are (x, y, u, v)."""
    dx, dy, du, dv = [b - a for a, b in zip(one, other)]
    pace = du * du + dv * dv
    if pace == 0:
        return None
    nearest = Decimal(-(dx * du + dy * dv)) / pace
    aside = (dx * dv - dy * du) ** 2
    room = reach * reach * pace - aside
    if room < 0:
        return None
    half = Decimal(room).sqrt() / pace
    return nearest - half, nearest + half


def reckoned_span(one, other, reach, closed):
    """None, or (already, first, last) reckoned with 200 digits; last is None if there's none."""
    with localcontext() as context:
        context.prec = 200
        dx, dy = other[0] - one[0], other[1] - one[1]
        gap = dx * dx + dy * dy - reach * reach
        already = gap <= 0 if closed else gap < 0
        if one[2:] == other[2:]:
            return (True, Decimal(0), None) if already else None
        ends = roots(one, other, reach)
        if ends is None:
            return None
        low, high = ends
        if not closed and (high - low < SAME or high < SAME):
            return None
        if high < -SAME:
            return None
        return already, max(low, Decimal(0)), high


def reckoned_told(instant):
    """An instant of reckoned_span, told."""
    with localcontext() as context:
        context.prec = 200
        nearest = int(instant.to_integral_value())
        if abs(instant - nearest) < SAME:
            return [nearest, 1]
        return [int(instant // 1), 0]


def reckoned_answer(span):
    """What meets and hides are to answer of a reckoned span."""
    if span is None:
        return [0]
    already, first, last = span
    last_told = [] if last is None else reckoned_told(last)
    return [2 if already else 1, 2] + reckoned_told(first) + [len(last_told)] + last_told


def reckoned_compared(one, other):
    """-1, 0 or 1, as the one reckoned instant is earlier than the other, the same or later."""
    with localcontext() as context:
        context.prec = 200
        gap = one - other
        if abs(gap) < SAME:
            return 0
        return 1 if gap > 0 else -1


def reckoned_meeting(one, other):
    """The span at which two bodies, each (x, y, u, v, r) or more, lie over one another, or None."""
    return reckoned_span(one[:4], other[:4], one[4] + other[4], False)


def reckoned_hiding(one, other):
    """The span at which the one body, (x, y, u, v, r, far), hides the other, or None."""
    if one[5] > other[5] or one[4] < other[4]:
        return None
    return reckoned_span(one[:4], other[:4], one[4] - other[4], True)


def reckoned_meetings(bodies):
    """All meetings as order tells them, each (lesser, greater, span)."""
    found = []
    for j in range(len(bodies)):
        for i in range(j):
            span = reckoned_meeting(bodies[i], bodies[j])
            if span is not None:
                found.append((i, j, span))

    def before(one, other):
        return reckoned_compared(one[2][1], other[2][1]) or (1 if one[:2] > other[:2] else -1)

    return sorted(found, key=functools.cmp_to_key(before))


def is_within(span, instant, closed):
    """Whether the instant belongs to a reckoned span; with closed its ends belong to it."""
    if span is None:
        return False
    already, first, last = span
    edge = 1 if closed else 0
    begun = already or reckoned_compared(first, instant) < edge
    return begun and (last is None or reckoned_compared(instant, last) < edge)


def between_and_at(instants):
    """The instants, without those told twice, one between each two of them, and one behind all."""
    with localcontext() as context:
        context.prec = 200
        found = []
        for instant in sorted(instants):
            if not found or reckoned_compared(found[-1], instant) < 0:
                if found:
                    found.append((found[-1] + instant) / 2)
                found.append(instant)
        return found + [found[-1] + 1]


def reckoned_order(bodies):
    rows = []
    before = None
    for i, j, span in reckoned_meetings(bodies):
        same = before is not None and reckoned_compared(before, span[1]) == 0
        rows.extend([i, j, 1 if same else 0])
        before = span[1]
    return [len(rows) // 3, len(rows)] + rows


def reckoned_most(bodies):
    spans = [span for i, j, span in reckoned_meetings(bodies)]
    ends = [Decimal(0)] + [end for span in spans for end in span[1:] if end is not None]
    looked_at = between_and_at(ends)
    counts = [len([span for span in spans if is_within(span, instant, False)]) for instant in looked_at]
    most = max(counts)
    if most == 0:
        return [0, 0]
    place = counts.index(most)
    # Where so many are just behind an end, but not at it, the end is what isn't above any such instant.
    if place % 2 == 1:
        place -= 1
    return [most, 2] + reckoned_told(looked_at[place])


def reckoned_seen(bodies, instant):
    if instant > 100000:
        return [-1]
    views = []
    for one in bodies:
        hidden = any(is_within(reckoned_hiding(other, one), instant, True) for other in bodies if other != one)
        lain_over = any(is_within(reckoned_meeting(other, one), instant, False)
                        for other in bodies if other[5] < one[5])
        views.append(2 if hidden else 1 if lain_over else 0)
    return [views.count(0), len(views)] + views


def reckoned_joined(bodies, instant):
    if instant > 100000:
        return [-1]
    leasts = [None] * len(bodies)
    for start in range(len(bodies)):
        waiting = [start] if leasts[start] is None else []
        while waiting:
            i = waiting.pop()
            leasts[i] = start
            waiting.extend(j for j in range(len(bodies)) if leasts[j] is None
                           and is_within(reckoned_meeting(bodies[i], bodies[j]), instant, False))
    return [len(set(leasts)), len(leasts)] + leasts


def reckoned_free(bodies, number, first, last):
    if number >= len(bodies) or last > 100000 or last < first:
        return [-1]
    one = bodies[number]
    for other in bodies:
        span = reckoned_meeting(one, other) if other[5] < one[5] else None
        if span is not None:
            ends = [end for end in span[1:] if end is not None and first < end < last]
            looked_at = between_and_at([Decimal(first), Decimal(last)] + ends)[:-1]
            if any(is_within(span, instant, False) for instant in looked_at):
                return [0]
    return [1]


def reckoned_next(bodies, instant):
    if instant > 100000:
        return [-1]
    for i, j, span in reckoned_meetings(bodies):
        if reckoned_compared(span[1], instant) > 0:
            return [0, 2, i, j, 2] + reckoned_told(span[1])
    return [-6]


def reckoned_where(bodies, number, instant):
    if number >= len(bodies) or instant > 100000:
        return [-1]
    x, y, u, v = bodies[number][:4]
    return [0, 2, x + u * instant, y + v * instant]


def reckoned_pair(bodies, i, j, span_of_two):
    """What meets and hides are to answer."""
    if max(i, j) >= len(bodies) or i == j:
        return [-1]
    return reckoned_answer(span_of_two(bodies[i], bodies[j]))


def reckoned_compare(bodies, i, j, k, l):
    if max(i, j, k, l) >= len(bodies) or i == j or k == l:
        return [-1]
    one = reckoned_meeting(bodies[i], bodies[j])
    other = reckoned_meeting(bodies[k], bodies[l])
    return [0 if one is None or other is None else 2 + reckoned_compared(one[1], other[1])]


def reckoned_body(bodies, x, y, u, v, r, far):
    if x > 2000 or y > 2000 or u > 100 or v > 100 or r == 0 or r > 200 or far > 1000:
        return [-1]
    if len(bodies) == 8:
        return [-5]
    if any(far == told[5] for told in bodies):
        return [-4]
    bodies.append((x - 1000, y - 1000, u - 50, v - 50, r, far))
    return [len(bodies) - 1]


def reckoned_drop(bodies, number):
    if number >= len(bodies):
        return [-1]
    bodies[number:number + 1] = []
    return [len(bodies)]


def reckoned_begins(bodies):
    bodies[:] = []
    return [0]


RECKONED = [
    reckoned_begins,
    reckoned_body,
    reckoned_drop,
    lambda bodies, one, other: reckoned_pair(bodies, one, other, reckoned_meeting),
    lambda bodies, i, j: reckoned_pair(bodies, i, j, reckoned_hiding),
    reckoned_compare,
    reckoned_order,
    reckoned_most,
    reckoned_seen,
    reckoned_joined,
    reckoned_free,
    reckoned_next,
    reckoned_where,
]


def reckoned_line(calls):
    """The answers that the calls are to have, each a list of its own."""
    bodies = []
    return [RECKONED[call[0]](bodies, *call[1:]) for call in calls]


class Numbers:
    """Whole numbers that look strewn, and are the same every time."""

    def __init__(self, seed):
        self.state = seed

    def between(self, low, high):
        self.state = (self.state * 6364136223846793005 + 1442695040888963407) % 2 ** 64
        return low + (self.state >> 33) % (high - low + 1)


def strewn_bodies(numbers, count, place, pace, radius):
    """Bodies told as (x, y, u, v, r), within the bounds handed over."""
    return [
        (numbers.between(-place, place), numbers.between(-place, place),
         numbers.between(-pace, pace), numbers.between(-pace, pace), numbers.between(1, radius))
        for number in range(count)
    ]


def strewn_pair(numbers, place, pace, radius):
    """Two such bodies; most of those that would only go apart have their ways exchanged, so that more pairs meet."""
    one, other = strewn_bodies(numbers, 2, place, pace, radius)
    dx, dy, du, dv = [b - a for a, b in zip(one[:4], other[:4])]
    if dx * du + dy * dv > 0 and numbers.between(0, 3) > 0:
        return [one[:2] + other[2:4] + one[4:], other[:2] + one[2:4] + other[4:]]
    return [one, other]


def turned_inward(told):
    """The body, (x, y, u, v, r), with its way turned towards 0, 0."""
    x, y, u, v, r = told
    return x, y, -abs(u) if x > 0 else abs(u), -abs(v) if y > 0 else abs(v), r


def strewn_sky(numbers, count, place, pace, radius):
    """Bodies told as (x, y, u, v, r, far), no two as far, the fars in no order; most go inward, so that more meet."""
    fars = []
    while len(fars) < count:
        far = numbers.between(0, 1000)
        if far not in fars:
            fars.append(far)
    bodies = strewn_bodies(numbers, count, place, pace, radius)
    bodies = [turned_inward(told) if numbers.between(0, 3) > 0 else told for told in bodies]
    return [told + (far,) for told, far in zip(bodies, fars)]


def sky_of(bodies):
    """The calls that tell the bodies, each (x, y, u, v, r, far)."""
    return [body(*told) for told in bodies]


def strewn_call(numbers, kind):
    """A call of the kind, with numbers of which most are such as to be taken."""
    def number():
        return GREATEST if numbers.between(0, 40) == 0 else numbers.between(0, 8 if numbers.between(0, 3) == 0 else 4)

    def instant():
        edges = [99999, 100000, 100001, GREATEST]
        return edges[numbers.between(0, 3)] if numbers.between(0, 6) == 0 else numbers.between(0, 12)

    def told():
        return told_body(numbers.between(960, 1040), numbers.between(960, 1040), numbers.between(46, 54),
                         numbers.between(46, 54), numbers.between(0, 20), numbers.between(0, 30))

    kinds = [
        lambda: BEGINS, told, lambda: drop(number()), lambda: meets(number(), number()),
        lambda: hides(number(), number()), lambda: compare(number(), number(), number(), number()), lambda: ORDER,
        lambda: MOST, lambda: seen(instant()), lambda: joined(instant()), lambda: free(number(), instant(), instant()),
        lambda: next_one(instant()), lambda: where(number(), instant()),
    ]
    return kinds[kind]()


def strewn_line(numbers, first):
    """Sixty calls of all kinds, the first of the kind first; bodies come more often than they go."""
    calls = [strewn_call(numbers, first)]
    while len(calls) < 60:
        kind = numbers.between(0, 12)
        if kind == 0 and numbers.between(0, 3) > 0:
            kind = 1
        calls.append(strewn_call(numbers, 1 if numbers.between(0, 5) == 0 else kind))
    return calls
