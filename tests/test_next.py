"""Promise 8: next."""

import unittest

from tests.skies import BEGINS, GREATEST, ORDER, Numbers, body, drop, last_of, next_one, pair, run
from tests.skies import reckoned_next, sky_of, strewn_sky

NONE_LATER = [-6]
REFUSED = [-1]

# Each four bodies' x, y, u, v and r, of which no pair meets but 0 and 1, and 2 and 3, by less than 1e-17 later; and
# the whole number below both firsts.
VERY_NEAR = [
    ([(-192, -7, 3, -49, 200), (133, -1000, -9, 48, 196), (-913, -1000, -38, 48, 10), (-1000, -149, -19, -48, 175)], 6),
    ([(16, 1000, 44, -47, 108), (760, 306, -31, 43, 120), (396, -1000, 50, 30, 165), (1000, -353, -47, -13, 189)], 7),
    ([(1000, 1000, -43, -40, 165), (236, 593, 42, -21, 157), (-1000, -377, 43, -32, 111), (-266, -759, -36, 36, 93)], 6),
]


def told(lesser, greater, whole, is_just):
    return [0, 2, lesser, greater, 2, whole, is_just]


class NextTest(unittest.TestCase):
    def test_none(self):
        self.assertEqual(run(next_one(0), next_one(100000)), [NONE_LATER] * 2)
        self.assertEqual(last_of(body(0, 0, 0, 0, 10, 1), next_one(0)), NONE_LATER)
        self.assertEqual(last_of(*pair(100, 20, -1, 0, 20, 1), next_one(0)), NONE_LATER)

    def test_later_than_the_instant(self):
        two = pair(100, 0, -1, 0, 20, 1)
        found = run(*two, *[next_one(t) for t in (0, 1, 79, 80, 81, 100, 120, 100000)])[2:]
        self.assertEqual(found, [told(0, 1, 80, 1)] * 3 + [NONE_LATER] * 5)

    def test_a_first_that_is_not_whole(self):
        # 80.6.., and 80 / 3.
        self.assertEqual(run(*pair(100, 5, -1, 0, 20, 1), next_one(79), next_one(80), next_one(81))[2:],
                         [told(0, 1, 80, 0)] * 2 + [NONE_LATER])
        self.assertEqual(run(*pair(100, 0, -3, 0, 20, 1), next_one(26), next_one(27))[2:],
                         [told(0, 1, 26, 0), NONE_LATER])

    def test_the_instant_0_is_not_later_than_itself(self):
        # Met already; for ever; from the instant 0 on.
        for two in [pair(19, 0, 1, 0, 20, 1), pair(19, 0, 0, 0, 20, 1), pair(20, 0, -1, 0, 20, 1)]:
            with self.subTest(two=two):
                self.assertEqual(last_of(*two, next_one(0)), NONE_LATER)

    def test_just_behind_the_instant_0(self):
        self.assertEqual(last_of(*pair(21, 0, -50, 0, 20, 1), next_one(0)), told(0, 1, 0, 0))

    def test_the_nearest_later_one(self):
        # The bodies 0 and 1 meet at 80, 0 and 2 at 40, 1 and 2 at 60.
        three = [body(0, 0, 0, 0, 10, 1), body(100, 0, -1, 0, 10, 2), body(-100, 0, 2, 0, 10, 3)]
        found = run(*three, *[next_one(t) for t in (0, 39, 40, 59, 60, 79, 80)])[3:]
        self.assertEqual(found, [told(0, 2, 40, 1)] * 2 + [told(1, 2, 60, 1)] * 2 + [told(0, 1, 80, 1)] * 2 + [NONE_LATER])

    def test_two_firsts_of_one_instant(self):
        # All three come to the body at 0, 0 at the instant 80, wherever that one stands.
        middle = (0, 0, 0, 0, 10)
        round_about = [(100, 0, -1, 0, 10), (-180, 0, 2, 0, 10), (0, 260, 0, -3, 10)]
        for place, expected in enumerate([(0, 1), (0, 1), (0, 2), (0, 3)]):
            with self.subTest(place=place):
                four = list(round_about)
                four.insert(place, middle)
                sky = [body(*numbers, 100 - far) for far, numbers in enumerate(four)]
                self.assertEqual(run(*sky, next_one(0), next_one(79))[4:], [told(*expected, 80, 1)] * 2)

    def test_two_firsts_of_one_instant_by_the_lesser_body_then_the_other(self):
        # At 10 the bodies 0 and 3, 1 and 2.
        four = [body(-500, 0, 0, 0, 5, 9), body(500, 0, 0, 0, 5, 8), body(500, 20, 0, -1, 5, 7), body(-500, 20, 0, -1, 5, 6)]
        self.assertEqual(run(*four, next_one(9), next_one(10))[4:], [told(0, 3, 10, 1), NONE_LATER])
        self.assertEqual(last_of(*four[1:], four[0], next_one(0)), told(0, 1, 10, 1))

    def test_roots_that_differ_by_very_little(self):
        for bodies, whole in VERY_NEAR:
            sky = [body(*numbers, far) for far, numbers in enumerate(bodies)]
            turned = [body(*numbers, far) for far, numbers in enumerate(bodies[2:] + bodies[:2])]
            for instant in (0, whole):
                with self.subTest(bodies=bodies, instant=instant):
                    self.assertEqual(last_of(*sky, next_one(instant)), told(0, 1, whole, 0))
                    self.assertEqual(last_of(*turned, next_one(instant)), told(2, 3, whole, 0))

    def test_late_instants(self):
        two = pair(1900, 0, -1, 0, 20, 1)
        self.assertEqual(run(*two, next_one(1879), next_one(1880), next_one(99999), next_one(100000))[2:],
                         [told(0, 1, 1880, 1)] + [NONE_LATER] * 3)

    def test_after_a_drop_and_after_begins(self):
        three = [body(0, 0, 0, 0, 10, 1), body(100, 0, -1, 0, 10, 2), body(-100, 0, 2, 0, 10, 3)]
        found = run(*three, drop(0), next_one(0), next_one(60), BEGINS, next_one(0))
        self.assertEqual(found[3:], [[2], told(0, 1, 60, 1), NONE_LATER, [0], NONE_LATER])

    def test_as_reckoned_with_many_digits(self):
        numbers = Numbers(11)
        counts = {0: 0, -6: 0}
        for place, pace, radius, latest in [(1000, 50, 200, 20), (60, 3, 10, 12), (9, 1, 2, 6), (6, 1, 1, 4)] * 100:
            bodies = strewn_sky(numbers, numbers.between(2, 8), place, pace, radius)
            instant = numbers.between(0, latest)
            expected = reckoned_next(bodies, instant)
            counts[expected[0]] += 1
            with self.subTest(bodies=bodies, instant=instant):
                self.assertEqual(last_of(*sky_of(bodies), next_one(instant)), expected)
        self.assertGreater(min(counts.values()), 100, counts)


class RefusalTest(unittest.TestCase):
    def test_refused(self):
        two = pair(100, 0, -1, 0, 20, 1)
        for instant in (100001, 100002, GREATEST):
            with self.subTest(instant=instant):
                found = run(*two, next_one(instant), next_one(0), ORDER, drop(1))
                self.assertEqual(found[2:], [REFUSED, told(0, 1, 80, 1), [1, 3, 0, 1, 0], [1]])

    def test_none_later_leaves_all_as_it_was(self):
        two = pair(100, 0, -1, 0, 20, 1)
        found = run(*two, next_one(80), next_one(79), ORDER, drop(1))
        self.assertEqual(found[2:], [NONE_LATER, told(0, 1, 80, 1), [1, 3, 0, 1, 0], [1]])

    def test_above_100000_is_told_before_none_later(self):
        self.assertEqual(run(next_one(100001), next_one(GREATEST), next_one(100000)), [REFUSED, REFUSED, NONE_LATER])
        self.assertEqual(last_of(*pair(100, 0, -1, 0, 20, 1), next_one(100001)), REFUSED)


if __name__ == "__main__":
    unittest.main()
