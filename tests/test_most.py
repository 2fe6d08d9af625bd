"""Promise 5: most."""

import unittest

from tests.skies import BEGINS, MOST, ORDER, Numbers, body, drop, last_of, meets, pair, run
from tests.skies import reckoned_most, sky_of, strewn_sky

NONE = [0, 0]

# Each four bodies' x, y, u, v and r; no pair meets but 0 and 1, and 2 and 3. In the first list the one meeting ends
# by less than 1e-16 before the other begins, in the second it ends by less than 1e-15 behind that.
JUST_NOT_AT_ONCE = [
    [(862, -814, 0, 10, 116), (1000, -1000, -49, 50, 23), (-489, -990, -48, -27, 196), (-1000, -1000, -4, -11, 82)],
    [(-47, 1000, 4, -28, 28), (-274, 722, 50, 16, 110), (513, -1000, 28, 50, 88), (1000, -704, -13, 16, 89)],
    [(1000, 703, -18, -50, 71), (853, 438, 26, -35, 177), (-591, -1000, -11, 50, 148), (-1000, -557, 19, 20, 121)],
]
JUST_AT_ONCE = [
    [(-950, -1000, -50, -27, 75), (-1000, -840, -23, -50, 78), (-1000, -628, -10, 36, 107), (-450, -441, -50, 19, 150)],
    [(-16, -818, 50, 4, 124), (70, -1000, 21, 50, 75), (-1000, 559, 38, -12, 104), (-825, 1000, 10, -50, 62)],
]


def most_of(*bodies):
    """What most answers of bodies told as (x, y, u, v, r), and the same of them the other way round."""
    found = last_of(*[body(*told, far) for far, told in enumerate(bodies)], MOST)
    turned = last_of(*[body(*told, far) for far, told in enumerate(reversed(bodies))], MOST)
    assert found == turned, (found, turned)
    return found


class MostTest(unittest.TestCase):
    def test_none(self):
        self.assertEqual(run(MOST), [NONE])
        self.assertEqual(most_of((0, 0, 0, 0, 10)), NONE)
        self.assertEqual(most_of((0, 0, 0, 0, 10), (500, 0, 1, 0, 10), (-500, 0, -1, 0, 10)), NONE)

    def test_one_meeting(self):
        self.assertEqual(most_of((0, 0, 0, 0, 10), (100, 0, -1, 0, 10)), [1, 2, 80, 1])

    def test_only_touching_is_none(self):
        self.assertEqual(most_of((0, 0, 0, 0, 10), (100, 20, -1, 0, 10)), NONE)
        self.assertEqual(most_of((0, 0, 0, 0, 10), (20, 0, 0, 0, 10)), NONE)
        self.assertEqual(most_of((0, 0, 0, 0, 10), (20, 0, 1, 0, 10)), NONE)

    def test_at_once_from_the_later_first_on(self):
        # The bodies 0 and 1 from 80 to 120, the bodies 2 and 3 from 90 to 130; these are far from those.
        self.assertEqual(most_of((0, 0, 0, 0, 10), (100, 0, -1, 0, 10), (0, 500, 0, 0, 10), (110, 500, -1, 0, 10)),
                         [2, 2, 90, 1])

    def test_a_meeting_within_another_one(self):
        # From 80 to 120, and from 95 to 105.
        self.assertEqual(most_of((0, 0, 0, 0, 10), (100, 0, -1, 0, 10), (0, 500, 0, 0, 10), (400, 500, -4, 0, 10)),
                         [2, 2, 95, 1])

    def test_three_that_all_lie_over_one_another(self):
        # Of 0 and 1 from 90 to 130, of 0 and 2 from 80 to 120, of 1 and 2 from 95 to 115.
        self.assertEqual(most_of((0, 0, 0, 0, 10), (110, 0, -1, 0, 10), (-100, 0, 1, 0, 10)), [3, 2, 95, 1])

    def test_pairs_are_counted_not_bodies(self):
        # The middle one lies over each of the four others; of those each lies over the two beside it, then none.
        wide = [(0, 0, 0, 0, 10), (14, 0, 0, 0, 10), (-14, 0, 0, 0, 10), (0, 14, 0, 0, 10), (0, -14, 0, 0, 10)]
        self.assertEqual(most_of(*wide), [8, 2, 0, 1])
        thin = [(0, 0, 0, 0, 10), (12, 0, 0, 0, 3), (-12, 0, 0, 0, 3), (0, 12, 0, 0, 3), (0, -12, 0, 0, 3)]
        self.assertEqual(most_of(*thin), [4, 2, 0, 1])

    def test_one_ends_just_when_another_begins(self):
        # From 80 to 120 and from 120 to 160.
        self.assertEqual(most_of((0, 0, 0, 0, 10), (100, 0, -1, 0, 10), (0, 500, 0, 0, 10), (140, 500, -1, 0, 10)),
                         [1, 2, 80, 1])

    def test_one_ends_just_when_another_begins_at_a_fraction(self):
        # Until 120 / 7, and from 360 / 21 on; then the same but until 121 / 7.
        rest = [(0, 500, 0, 0, 10), (380, 500, -21, 0, 10)]
        self.assertEqual(most_of((0, 0, 0, 0, 10), (100, 0, -7, 0, 10), *rest), [1, 2, 11, 0])
        self.assertEqual(most_of((0, 0, 0, 0, 10), (101, 0, -7, 0, 10), *rest), [2, 2, 17, 0])

    def test_several_end_when_several_begin(self):
        # Two from 80 to 120, one from 120 to 160, one from 120 to 200.
        eight = [(0, 0, 0, 0, 10), (100, 0, -1, 0, 10), (0, 300, 0, 0, 10), (100, 300, -1, 0, 10)]
        eight += [(0, 600, 0, 0, 10), (140, 600, -1, 0, 10), (0, 900, 0, 0, 20), (160, 900, -1, 0, 20)]
        self.assertEqual(most_of(*eight), [2, 2, 80, 1])
        # One from 100 to 140 in the place of the second: two from 100 on, three from 120 on.
        eight[3] = (120, 300, -1, 0, 10)
        self.assertEqual(most_of(*eight), [3, 2, 120, 1])
        self.assertEqual(most_of(*eight[:6]), [2, 2, 100, 1])

    def test_at_the_instant_0(self):
        self.assertEqual(most_of((0, 0, 0, 0, 10), (19, 0, 0, 0, 10)), [1, 2, 0, 1])
        self.assertEqual(most_of((0, 0, 0, 0, 10), (19, 0, 50, 0, 10)), [1, 2, 0, 1])

    def test_just_behind_the_instant_0(self):
        # The one pair has met already; the other only touches at 0, and lies over one another at once behind it.
        four = [(0, 0, 0, 0, 10), (19, 0, 1, 0, 10), (0, 500, 0, 0, 10), (20, 500, -1, 0, 10)]
        self.assertEqual(most_of(*four), [2, 2, 0, 1])
        # Here the first pair touches at 0 and goes apart.
        four = [(0, 0, 0, 0, 10), (20, 0, 1, 0, 10), (0, 500, 0, 0, 10), (20, 500, -1, 0, 10)]
        self.assertEqual(most_of(*four), [1, 2, 0, 1])

    def test_already_met_but_parted_before_another_meets(self):
        four = [(0, 0, 0, 0, 10), (19, 0, 1, 0, 10), (0, 500, 0, 0, 10), (21, 500, -1, 0, 10)]
        self.assertEqual(most_of(*four), [1, 2, 0, 1])
        four[1] = (18, 0, 1, 0, 10)
        self.assertEqual(most_of(*four), [2, 2, 1, 1])

    def test_one_for_ever(self):
        for_ever = [(0, 0, 1, 1, 10), (19, 0, 1, 1, 10)]
        self.assertEqual(most_of(*for_ever), [1, 2, 0, 1])
        self.assertEqual(most_of(*for_ever, (-1000, -900, 0, 0, 10), (0, -900, -1, 0, 10)), [2, 2, 980, 1])

    def test_eight_for_ever(self):
        self.assertEqual(most_of(*[(k, 0, 3, -3, 10) for k in range(8)]), [28, 2, 0, 1])

    def test_all_meet_in_one_place(self):
        eight = [(-100 * k, 0, k, 0, 1) for k in range(5)] + [(0, -100 * k, 0, k, 1) for k in range(1, 4)]
        self.assertEqual(most_of(*eight)[0], 28)
        self.assertEqual(most_of(*eight), reckoned_most([told + (far,) for far, told in enumerate(eight)]))

    def test_reached_more_than_once_the_first_is_told(self):
        # Two at once from 90 to 120, and two at once again from 290 to 320.
        eight = [(0, 0, 0, 0, 10), (100, 0, -1, 0, 10), (0, 300, 0, 0, 10), (110, 300, -1, 0, 10)]
        eight += [(0, 600, 0, 0, 10), (300, 600, -1, 0, 10), (0, 900, 0, 0, 10), (310, 900, -1, 0, 10)]
        self.assertEqual(most_of(*eight), [2, 2, 90, 1])
        # Now the second time there are more.
        self.assertEqual(most_of(*eight[4:], eight[0], (305, 0, -1, 0, 10)), [3, 2, 290, 1])

    def test_fewer_first_then_most(self):
        # One at 80, then none; two from 300 on.
        six = [(0, 0, 0, 0, 10), (100, 0, -1, 0, 10), (0, 600, 0, 0, 10), (320, 600, -1, 0, 10)]
        six += [(0, 900, 0, 0, 10), (320, 900, -1, 0, 10)]
        self.assertEqual(most_of(*six), [2, 2, 300, 1])

    def test_just_behind_an_instant_that_is_not_whole(self):
        # The second pair from 80 / 3 on, then from 100 less the root of 375 on, which is 80.6..
        one = [(0, 0, 0, 0, 10), (30, 0, -1, 0, 10)]
        self.assertEqual(most_of(*one, (0, 500, 0, 0, 10), (100, 500, -3, 0, 10)), [2, 2, 26, 0])
        one = [(0, 0, 0, 0, 10), (90, 0, -1, 0, 10)]
        self.assertEqual(most_of(*one, (0, 500, 0, 0, 10), (100, 505, -1, 0, 10)), [2, 2, 80, 0])

    def test_between_two_whole_instants(self):
        # About 20 + 20 / 50, by less than 2 / 50 to each side; the other pair from 20 to 21.
        self.assertEqual(most_of((-1000, 0, 50, 0, 1), (20, 1, 0, 0, 1)), [1, 2, 20, 0])
        self.assertEqual(most_of((-1000, 0, 50, 0, 1), (20, 1, 0, 0, 1), (0, 500, 0, 0, 5), (410, 500, -20, 0, 5)),
                         [2, 2, 20, 0])

    def test_ends_and_begins_by_very_little(self):
        for bodies in JUST_NOT_AT_ONCE:
            with self.subTest(bodies=bodies):
                first = last_of(*[body(*told, far) for far, told in enumerate(bodies)], meets(0, 1))[2:4]
                self.assertEqual(most_of(*bodies), [1, 2] + first)
        for bodies in JUST_AT_ONCE:
            with self.subTest(bodies=bodies):
                first = last_of(*[body(*told, far) for far, told in enumerate(bodies)], meets(2, 3))[2:4]
                self.assertEqual(most_of(*bodies), [2, 2] + first)

    def test_after_a_drop_and_after_begins(self):
        sky = pair(100, 0, -1, 0, 20, 1) + [body(0, 0, 0, 0, 1, 9), body(1, 0, 0, 0, 1, 10)]
        found = run(*sky, drop(3), drop(2), MOST, drop(0), MOST, BEGINS, MOST, ORDER)
        self.assertEqual(found[4:], [[3], [2], [1, 2, 80, 1], [1], NONE, [0], NONE, NONE])

    def test_as_reckoned_with_many_digits(self):
        numbers = Numbers(7)
        counts = {}
        for bounds in [(1000, 50, 200), (300, 5, 60), (30, 2, 9), (9, 1, 2)] * 40:
            bodies = strewn_sky(numbers, numbers.between(2, 8), *bounds)
            expected = reckoned_most(bodies)
            counts[expected[0]] = counts.get(expected[0], 0) + 1
            with self.subTest(bodies=bodies):
                self.assertEqual(last_of(*sky_of(bodies), MOST), expected)
        self.assertGreater(len(counts), 8, counts)


if __name__ == "__main__":
    unittest.main()
