"""Promise 2: hides."""

import unittest

from tests.skies import GREATEST, ORDER, Numbers, body, drop, hides, last_of, run
from tests.skies import reckoned_answer, reckoned_span, strewn_pair

NEVER = [0]
FOR_EVER = [2, 2, 0, 1, 0]


class HidesTest(unittest.TestCase):
    def check(self, one, other, answer):
        """one and other are (x, y, u, v, r); one is the nearer."""
        self.assertEqual(last_of(body(*one, 1), body(*other, 2), hides(0, 1)), answer)
        self.assertEqual(last_of(body(*other, 2), body(*one, 1), hides(1, 0)), answer)

    def test_whole_first_and_last(self):
        self.check((0, 0, 0, 0, 30), (100, 0, -1, 0, 10), [1, 2, 80, 1, 2, 120, 1])
        self.check((100, 0, -1, 0, 30), (0, 0, 0, 0, 10), [1, 2, 80, 1, 2, 120, 1])

    def test_first_and_last_that_are_fractions(self):
        self.check((0, 0, 0, 0, 30), (100, 0, -3, 0, 10), [1, 2, 26, 0, 2, 40, 1])

    def test_first_and_last_that_are_roots(self):
        self.check((0, 0, 0, 0, 30), (100, 5, -1, 0, 10), [1, 2, 80, 0, 2, 119, 0])

    def test_only_touching_from_within_is_hiding(self):
        self.check((0, 0, 0, 0, 30), (100, 20, -1, 0, 10), [1, 2, 100, 1, 2, 100, 1])
        self.check((0, 0, 0, 0, 30), (100, 20, -3, 0, 10), [1, 2, 33, 0, 2, 33, 0])
        self.check((0, 0, 0, 0, 30), (100, 21, -1, 0, 10), NEVER)

    def test_touching_from_within_at_the_instant_0(self):
        self.check((0, 0, 0, 0, 30), (20, 0, 1, 0, 10), [2, 2, 0, 1, 2, 0, 1])
        self.check((0, 0, 0, 0, 30), (20, 0, 0, 1, 10), [2, 2, 0, 1, 2, 0, 1])
        self.check((0, 0, 0, 0, 30), (20, 0, -1, 0, 10), [2, 2, 0, 1, 2, 40, 1])
        self.check((0, 0, 0, 0, 30), (20, 0, 0, 0, 10), FOR_EVER)

    def test_already(self):
        self.check((0, 0, 0, 0, 30), (19, 0, 1, 0, 10), [2, 2, 0, 1, 2, 1, 1])
        self.check((0, 0, 0, 0, 30), (19, 0, 3, 0, 10), [2, 2, 0, 1, 2, 0, 0])

    def test_for_ever(self):
        self.check((0, 0, 9, -9, 30), (12, 15, 9, -9, 10), FOR_EVER)

    def test_never(self):
        self.check((0, 0, 9, -9, 30), (21, 0, 9, -9, 10), NEVER)
        self.check((0, 0, 0, 0, 30), (21, 0, 1, 0, 10), NEVER)
        self.check((0, 0, 0, 0, 30), (21, 0, 0, 1, 10), NEVER)

    def test_equal_radii(self):
        self.check((0, 0, 0, 0, 10), (100, 0, -1, 0, 10), [1, 2, 100, 1, 2, 100, 1])
        self.check((0, 0, 0, 0, 10), (100, 50, -6, -3, 10), [1, 2, 16, 0, 2, 16, 0])
        self.check((0, 0, 0, 0, 10), (100, 1, -1, 0, 10), NEVER)
        self.check((0, 0, 0, 0, 10), (0, 0, 1, 0, 10), [2, 2, 0, 1, 2, 0, 1])
        self.check((7, 7, 1, 2, 10), (7, 7, 1, 2, 10), FOR_EVER)
        self.check((7, 7, 1, 2, 10), (7, 8, 1, 2, 10), NEVER)
        self.check((0, 0, 0, 0, 10), (1, 0, 1, 0, 10), NEVER)

    def test_a_lesser_radius_hides_nothing(self):
        self.check((0, 0, 0, 0, 9), (0, 0, 0, 0, 10), NEVER)
        self.check((0, 0, 0, 0, 10), (0, 0, 1, 0, 30), NEVER)

    def test_a_farther_body_hides_nothing(self):
        wide = body(0, 0, 0, 0, 30, 2)
        small = body(0, 0, 0, 0, 10, 1)
        self.assertEqual(run(wide, small, hides(0, 1), hides(1, 0))[2:], [NEVER, NEVER])

    def test_the_nearer_one_alone_hides(self):
        wide = body(0, 0, 0, 0, 30, 0)
        small = body(0, 0, 0, 0, 10, 1000)
        self.assertEqual(run(wide, small, hides(0, 1), hides(1, 0))[2:], [FOR_EVER, NEVER])
        self.assertEqual(run(small, wide, hides(0, 1), hides(1, 0))[2:], [NEVER, FOR_EVER])

    def test_as_reckoned_with_many_digits(self):
        numbers = Numbers(2)
        kinds = {0: 0, 1: 0, 2: 0}
        for bounds in [(300, 50, 200), (100, 3, 120), (12, 2, 12)] * 800:
            one, other = strewn_pair(numbers, *bounds)
            span = None
            if one[4] >= other[4]:
                span = reckoned_span(one[:4], other[:4], one[4] - other[4], True)
            expected = reckoned_answer(span)
            kinds[expected[0]] += 1
            with self.subTest(one=one, other=other):
                self.check(one, other, expected)
        self.assertGreater(min(kinds.values()), 50, kinds)


class RefusalTest(unittest.TestCase):
    def test_refused(self):
        two = [body(0, 0, 0, 0, 30, 1), body(0, 0, 0, 0, 10, 2)]
        for i, j in [(0, 2), (2, 0), (2, 3), (0, 0), (1, 1), (2, 2), (0, GREATEST), (GREATEST, 1)]:
            with self.subTest(i=i, j=j):
                found = run(*two, hides(i, j), ORDER, drop(1))
                self.assertEqual(found[2:], [[-1], [1, 3, 0, 1, 0], [1]])

    def test_refused_without_bodies(self):
        self.assertEqual(run(hides(0, 1), hides(0, 0)), [[-1], [-1]])


if __name__ == "__main__":
    unittest.main()
