"""Instants kept as the numbers that they are, and the spans of instants at which something holds."""


class Instant:
    """The number (whole + root) / parts; the root is kept as square, which is root * abs(root)."""

    def __init__(self, whole, square, parts):
        self.whole = whole
        self.square = square
        self.parts = parts


class Span:
    """From first to last; last is None if there's none, already says that the instant 0 is within."""

    def __init__(self, already, first, last):
        self.already = already
        self.first = first
        self.last = last


def whole_instant(number):
    """The instant that's just the whole number."""
    return Instant(number, 0, 1)


def sign_of(number):
    """1, 0 or -1, as the number is above 0, 0 or below 0."""
    if number > 0:
        return 1
    if number < 0:
        return -1
    return 0


def root_below(number):
    """The greatest whole number whose square isn't above the number."""
    low = 0
    high = number + 1
    while high - low > 1:
        middle = (low + high) // 2
        if middle * middle <= number:
            low = middle
        else:
            high = middle
    return low


def sign_with_root(whole, square):
    """The sign of a whole number and a root together, the root told as in Instant."""
    # z * abs(z) grows wherever z does, so the sum has the sign of the two such squares' sum.
    return sign_of(whole * abs(whole) + square)


def sign_with_two_roots(whole, square, other):
    """The sign of a whole number and two roots together, the roots told as in Instant."""
    sign = sign_of(square + other)
    # The two roots' sum, squared, is a whole number and one root: so one root is left to weigh.
    whole_part = whole * abs(whole) + sign * (abs(square) + abs(other))
    return sign_with_root(whole_part, sign * 4 * square * other)


def compared(one, other):
    """-1, 0 or 1, as the one instant is earlier than the other, the same or later."""
    whole = one.whole * other.parts - other.whole * one.parts
    square = one.square * other.parts * other.parts
    other_square = -other.square * one.parts * one.parts
    return sign_with_two_roots(whole, square, other_square)


def told(instant):
    """The greatest whole number that's not above the instant, and 1 if it's just that, else 0."""
    size = abs(instant.square)
    root = root_below(size)
    is_whole_root = root * root == size
    if instant.square >= 0:
        upper = instant.whole + root
    elif is_whole_root:
        upper = instant.whole - root
    else:
        upper = instant.whole - root - 1
    is_just = is_whole_root and upper % instant.parts == 0
    return [upper // instant.parts, 1 if is_just else 0]


def span_of(square, half, rest, with_edge):
    """The instants t at which square * t * t + 2 * half * t + rest is below 0, or None if there are none.

    With with_edge those at which it's 0 count too. The square is never below 0, and half is 0 where it's 0.
    """
    # These are whole numbers: not above 0 is the same as below 1.
    edge = 1 if with_edge else 0
    start = whole_instant(0)
    already = rest < edge
    if square == 0:
        return Span(True, start, None) if already else None
    under_root = half * half - square * rest
    if under_root + edge <= 0:
        return None
    # It only grows from the instant 0 on, and isn't low enough there.
    if half >= edge and not already:
        return None
    first = start if already else Instant(-half, -under_root, square)
    return Span(already, first, Instant(-half, under_root, square))


def has_instants_between(span, first, last):
    """Whether a span, without its ends but the instant 0 if that's within, has instants from first to last."""
    if span.last is not None and compared(span.last, first) <= 0:
        return False
    return span.already or compared(span.first, last) < 0
