"""Promise 6: seen."""

import unittest

from tests.skies import BEGINS, GREATEST, MOST, ORDER, Numbers, body, drop, hides, last_of, run, seen
from tests.skies import reckoned_seen, sky_of, strewn_sky


def told(*views):
    """What seen is to answer of the views."""
    return [views.count(0), len(views)] + list(views)


class SeenTest(unittest.TestCase):
    def test_without_bodies(self):
        self.assertEqual(run(seen(0), seen(100000), seen(100001)), [[0, 0], [0, 0], [-1]])

    def test_one_body(self):
        self.assertEqual(last_of(body(0, 0, 0, 0, 10, 5), seen(7)), told(0))

    def test_a_nearer_one_lies_over(self):
        near, away = body(0, 0, 0, 0, 10, 1), body(100, 0, -1, 0, 10, 2)
        self.assertEqual(run(near, away, *[seen(t) for t in (0, 80, 81, 99)])[2:],
                         [told(0, 0), told(0, 0), told(0, 1), told(0, 1)])
        self.assertEqual(run(near, away, *[seen(t) for t in (101, 119, 120, 121)])[2:],
                         [told(0, 1), told(0, 1), told(0, 0), told(0, 0)])

    def test_a_farther_one_that_lies_over(self):
        wide, small = body(0, 0, 0, 0, 30, 2), body(0, 0, 0, 0, 10, 1)
        self.assertEqual(last_of(wide, small, seen(0)), told(1, 0))
        self.assertEqual(last_of(small, wide, seen(0)), told(0, 1))

    def test_hidden(self):
        wide, small = body(0, 0, 0, 0, 30, 1), body(100, 0, -1, 0, 10, 2)
        found = run(wide, small, *[seen(t) for t in (60, 61, 79, 80, 100, 120, 121, 139, 140)])[2:]
        self.assertEqual(found, [told(0, view) for view in (0, 1, 1, 2, 2, 2, 1, 1, 0)])
        found = run(small, wide, *[seen(t) for t in (60, 61, 79, 80, 100, 120, 121, 139, 140)])[2:]
        self.assertEqual(found, [told(view, 0) for view in (0, 1, 1, 2, 2, 2, 1, 1, 0)])

    def test_hidden_at_one_instant_alone(self):
        # Touching from within at 100.
        self.assertEqual(run(body(0, 0, 0, 0, 30, 1), body(100, 20, -1, 0, 10, 2), seen(99), seen(100), seen(101))[2:],
                         [told(0, 1), told(0, 2), told(0, 1)])

    def test_of_one_radius(self):
        near, away = body(0, 0, 0, 0, 10, 1), body(5, 0, -1, 0, 10, 2)
        self.assertEqual(run(near, away, seen(4), seen(5), seen(6))[2:], [told(0, 1), told(0, 2), told(0, 1)])

    def test_a_lesser_radius_hides_nothing(self):
        self.assertEqual(last_of(body(0, 0, 0, 0, 9, 1), body(0, 0, 0, 0, 10, 2), seen(3)), told(0, 1))
        # Its radius less the other's is -10: the middles are just as far apart as that, taken without its sign.
        self.assertEqual(last_of(body(0, 0, 0, 0, 10, 1), body(10, 0, 0, 0, 20, 2), seen(3)), told(0, 1))

    def test_hidden_by_one_and_lain_over_by_another(self):
        wide, small, side = (0, 0, 0, 0, 30, 1), (0, 0, 0, 0, 10, 3), (15, 0, 0, 0, 10, 2)
        self.assertEqual(last_of(body(*wide), body(*small), body(*side), seen(9)), told(0, 2, 2))
        side = (15, 0, 0, 0, 20, 2)
        views = {wide: 0, small: 2, side: 1}
        for three in [(wide, small, side), (wide, side, small), (small, wide, side),
                      (small, side, wide), (side, wide, small), (side, small, wide)]:
            with self.subTest(three=three):
                self.assertEqual(last_of(*sky_of(three), seen(9)), told(*[views[one] for one in three]))

    def test_one_that_is_hidden_hides_too(self):
        three = [body(0, 0, 0, 0, 30, 1), body(0, 0, 0, 0, 20, 2), body(15, 0, 0, 0, 5, 3)]
        self.assertEqual(last_of(*three, seen(0)), told(0, 2, 2))
        # Each of the two nearer ones hides the last by itself.
        self.assertEqual(last_of(*three, drop(0), seen(0)), told(0, 2))
        self.assertEqual(last_of(*three, drop(1), seen(0)), told(0, 2))

    def test_two_together_do_not_hide(self):
        halves = [body(-10, 0, 0, 0, 19, 1), body(10, 0, 0, 0, 19, 2), body(0, 0, 0, 0, 10, 3)]
        self.assertEqual(last_of(*halves, seen(0)), told(0, 1, 1))

    def test_only_touching_is_seen(self):
        self.assertEqual(last_of(body(0, 0, 0, 0, 10, 1), body(20, 0, 0, 0, 10, 2), seen(0)), told(0, 0))
        self.assertEqual(last_of(body(0, 0, 0, 0, 10, 1), body(100, 20, -1, 0, 10, 2), seen(100)), told(0, 0))

    def test_the_greatest_instant(self):
        sky = [body(0, 0, 50, -50, 30, 1), body(10, 0, 50, -50, 20, 2), body(45, 0, 50, -50, 20, 3),
               body(0, 0, -50, 50, 20, 4)]
        self.assertEqual(run(*sky, seen(0), seen(99999), seen(100000))[4:],
                         [told(0, 2, 1, 2), told(0, 2, 1, 0), told(0, 2, 1, 0)])

    def test_as_reckoned_with_many_digits(self):
        numbers = Numbers(8)
        views = {0: 0, 1: 0, 2: 0}
        for place, pace, radius, latest in [(1000, 50, 200, 40), (60, 3, 40, 20), (9, 1, 5, 10), (5, 2, 3, 4)] * 120:
            bodies = strewn_sky(numbers, numbers.between(1, 8), place, pace, radius)
            instants = [numbers.between(0, latest) for number in range(3)]
            expected = [reckoned_seen(bodies, instant) for instant in instants]
            for view in expected[0][2:]:
                views[view] += 1
            with self.subTest(bodies=bodies, instants=instants):
                self.assertEqual(run(*sky_of(bodies), *[seen(t) for t in instants])[len(bodies):], expected)
        self.assertGreater(min(views.values()), 50, views)


class RefusalTest(unittest.TestCase):
    def test_refused(self):
        sky = [body(0, 0, 0, 0, 30, 1), body(0, 0, 0, 0, 10, 2)]
        for instant in [100001, 100002, GREATEST]:
            with self.subTest(instant=instant):
                found = run(*sky, seen(instant), seen(100000), hides(0, 1), MOST, ORDER, drop(1), BEGINS)
                self.assertEqual(found[2:], [[-1], told(0, 2), [2, 2, 0, 1, 0], [1, 2, 0, 1], [1, 3, 0, 1, 0], [1], [0]])


if __name__ == "__main__":
    unittest.main()
