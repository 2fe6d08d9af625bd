"""Promise 7: free."""

import unittest

from tests.skies import GREATEST, ORDER, Numbers, body, drop, free, last_of, meets, run
from tests.skies import reckoned_free, sky_of, strewn_sky
from tests.test_most import JUST_NOT_AT_ONCE

FREE = [1]
NOT_FREE = [0]
REFUSED = [-1]


class FreeTest(unittest.TestCase):
    def check(self, near, away, stretches):
        """near and away are (x, y, u, v, r); stretches tells of (first, last) whether the farther one is free."""
        for stretch, expected in stretches.items():
            with self.subTest(near=near, away=away, stretch=stretch):
                self.assertEqual(last_of(body(*near, 1), body(*away, 2), free(1, *stretch)), expected)
                self.assertEqual(last_of(body(*away, 2), body(*near, 1), free(0, *stretch)), expected)
                # Nothing is nearer than the nearer one.
                self.assertEqual(last_of(body(*near, 1), body(*away, 2), free(0, *stretch)), FREE)

    def test_one_body(self):
        self.assertEqual(last_of(body(0, 0, 0, 0, 10, 5), free(0, 0, 100000)), FREE)

    def test_a_nearer_one_comes_and_goes(self):
        # From 80 to 120.
        self.check((0, 0, 0, 0, 10), (100, 0, -1, 0, 10), {
            (0, 79): FREE, (0, 80): FREE, (0, 81): NOT_FREE, (0, 200): NOT_FREE, (90, 110): NOT_FREE,
            (119, 200): NOT_FREE, (120, 200): FREE, (121, 200): FREE, (80, 120): NOT_FREE, (79, 80): FREE,
            (80, 81): NOT_FREE, (119, 120): NOT_FREE, (120, 121): FREE, (0, 100000): NOT_FREE,
        })

    def test_one_instant_alone(self):
        self.check((0, 0, 0, 0, 10), (100, 0, -1, 0, 10), {
            (0, 0): FREE, (79, 79): FREE, (80, 80): FREE, (81, 81): NOT_FREE, (100, 100): NOT_FREE,
            (119, 119): NOT_FREE, (120, 120): FREE, (121, 121): FREE, (100000, 100000): FREE,
        })

    def test_comes_and_goes_between_two_whole_instants(self):
        # About 20 + 20 / 50, by less than 2 / 50 to each side.
        self.check((-1000, 0, 50, 0, 1), (20, 1, 0, 0, 1), {
            (20, 20): FREE, (21, 21): FREE, (20, 21): NOT_FREE, (0, 20): FREE, (21, 100): FREE, (0, 100): NOT_FREE,
        })

    def test_begins_or_ends_between_two_whole_instants(self):
        # From 100 less the root of 375 on, which is 80.6.., to 119.3..
        self.check((0, 0, 0, 0, 10), (100, 5, -1, 0, 10), {
            (0, 80): FREE, (0, 81): NOT_FREE, (80, 81): NOT_FREE, (80, 80): FREE, (81, 81): NOT_FREE,
            (119, 119): NOT_FREE, (119, 120): NOT_FREE, (120, 120): FREE, (120, 200): FREE,
        })

    def test_only_touching_at_a_whole_instant(self):
        self.check((0, 0, 0, 0, 10), (100, 20, -1, 0, 10), {(100, 100): FREE, (0, 200): FREE, (99, 100): FREE})
        self.check((0, 0, 0, 0, 10), (20, 0, 1, 0, 10), {(0, 0): FREE, (0, 200): FREE})
        self.check((0, 0, 0, 0, 10), (20, 0, 0, 0, 10), {(0, 0): FREE, (0, 100000): FREE, (5, 5): FREE})

    def test_only_touching_within_a_stretch(self):
        # At 100 / 3.
        self.check((0, 0, 0, 0, 10), (100, 20, -3, 0, 10), {(33, 34): FREE, (0, 200): FREE})
        self.check((0, 0, 0, 0, 10), (100, 19, -3, 0, 10), {(33, 34): NOT_FREE, (0, 200): NOT_FREE})

    def test_met_already(self):
        # Until 1, and until 1 / 3.
        self.check((0, 0, 0, 0, 10), (19, 0, 1, 0, 10), {
            (0, 0): NOT_FREE, (0, 1): NOT_FREE, (1, 1): FREE, (1, 5): FREE,
        })
        self.check((0, 0, 0, 0, 10), (19, 0, 3, 0, 10), {(0, 0): NOT_FREE, (0, 1): NOT_FREE, (1, 1): FREE})

    def test_begins_at_the_instant_0(self):
        self.check((0, 0, 0, 0, 10), (20, 0, -1, 0, 10), {(0, 0): FREE, (0, 1): NOT_FREE, (1, 1): NOT_FREE})

    def test_for_ever(self):
        self.check((0, 0, 7, -7, 10), (19, 0, 7, -7, 10), {
            (0, 0): NOT_FREE, (0, 100000): NOT_FREE, (100000, 100000): NOT_FREE, (5, 6): NOT_FREE,
        })

    def test_never(self):
        self.check((0, 0, 0, 0, 10), (21, 0, 1, 0, 10), {(0, 0): FREE, (0, 100000): FREE})

    def test_just_not_from_a_whole_instant_on(self):
        # 2000 less the root of 160000 - 1, which is 1600.00125..
        self.check((-1000, 0, 0, 0, 200), (1000, 1, -1, 0, 200), {
            (0, 1600): FREE, (1600, 1600): FREE, (1600, 1601): NOT_FREE, (1601, 1601): NOT_FREE,
        })

    def test_hidden_is_not_free(self):
        self.check((0, 0, 0, 0, 30), (0, 0, 0, 0, 10), {(3, 9): NOT_FREE})

    def test_a_farther_one_that_lies_over(self):
        small, wide = body(0, 0, 0, 0, 10, 1), body(0, 0, 0, 0, 30, 2)
        self.assertEqual(run(wide, small, free(1, 0, 9), free(0, 0, 9))[2:], [FREE, NOT_FREE])

    def test_each_of_several_counts(self):
        # The body 1 is lain over from 80 to 120 by the body 0, from 30 to 50 by the body 2; the body 3 is farther.
        sky = [body(-40, 0, 1, 0, 10, 1), body(60, 0, 0, 0, 10, 5), body(60, 80, 0, -2, 10, 2), body(60, 0, 0, 0, 9, 9)]
        stretches = {(0, 30): FREE, (0, 31): NOT_FREE, (50, 80): FREE, (49, 80): NOT_FREE, (50, 81): NOT_FREE,
                     (120, 9000): FREE, (119, 9000): NOT_FREE}
        for stretch, expected in stretches.items():
            with self.subTest(stretch=stretch):
                self.assertEqual(last_of(*sky, free(1, *stretch)), expected)
        self.assertEqual(last_of(*sky, drop(2), free(1, 0, 80)), FREE)
        self.assertEqual(last_of(*sky, drop(0), free(0, 50, 100000)), FREE)

    def test_the_greatest_instant(self):
        # Going along with one another, just touching; then not only touching.
        self.check((0, 0, 50, 50, 10), (20, 0, 50, 50, 10), {(0, 100000): FREE, (99999, 100000): FREE})
        self.check((0, 0, 50, 50, 10), (19, 0, 50, 50, 10), {(100000, 100000): NOT_FREE, (99999, 100000): NOT_FREE})

    def test_each_pair_of_whole_instants_about_the_ends(self):
        for bodies in JUST_NOT_AT_ONCE:
            sky = [told + (far,) for far, told in enumerate(bodies)]
            for number in range(4):
                for first in range(20):
                    for last in (first, first + 1, first + 5):
                        with self.subTest(sky=sky, number=number, first=first, last=last):
                            self.assertEqual(last_of(*sky_of(sky), free(number, first, last)),
                                             reckoned_free(sky, number, first, last))

    def test_as_reckoned_with_many_digits(self):
        numbers = Numbers(10)
        counts = {0: 0, 1: 0}
        for place, pace, radius, latest in [(1000, 50, 200, 30), (60, 3, 25, 25), (9, 1, 4, 9), (5, 2, 2, 4)] * 150:
            bodies = strewn_sky(numbers, numbers.between(2, 5), place, pace, radius)
            number = numbers.between(0, len(bodies) - 1)
            first = numbers.between(0, latest)
            last = first + numbers.between(0, 2)
            expected = reckoned_free(bodies, number, first, last)
            counts[expected[0]] += 1
            with self.subTest(bodies=bodies, number=number, first=first, last=last):
                self.assertEqual(last_of(*sky_of(bodies), free(number, first, last)), expected)
        self.assertGreater(min(counts.values()), 80, counts)


class RefusalTest(unittest.TestCase):
    def check(self, number, first, last, expected):
        sky = [body(0, 0, 0, 0, 10, 1), body(100, 0, -1, 0, 10, 2)]
        with self.subTest(number=number, first=first, last=last):
            found = run(*sky, free(number, first, last), ORDER, meets(0, 1), drop(1))
            self.assertEqual(found[2:], [expected, [1, 3, 0, 1, 0], [1, 2, 80, 1, 2, 120, 1], [1]])

    def test_there_is_no_such_body(self):
        for number in (2, 3, 8, GREATEST):
            self.check(number, 0, 5, REFUSED)

    def test_the_last_is_above_100000(self):
        self.check(1, 100000, 100000, FREE)
        self.check(1, 100000, 100001, REFUSED)
        self.check(1, 100001, 100001, REFUSED)
        self.check(1, 0, GREATEST, REFUSED)
        self.check(1, GREATEST, GREATEST, REFUSED)

    def test_the_last_is_before_the_first(self):
        self.check(1, 5, 4, REFUSED)
        self.check(1, 1, 0, REFUSED)
        self.check(1, 100001, 100000, REFUSED)
        self.check(1, GREATEST, 0, REFUSED)
        self.check(0, 100, 99, REFUSED)

    def test_without_bodies(self):
        self.assertEqual(run(free(0, 0, 0), free(0, 5, 4), free(GREATEST, 0, 0)), [REFUSED] * 3)


if __name__ == "__main__":
    unittest.main()
