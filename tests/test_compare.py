"""Promise 3: compare."""

import unittest

from tests.skies import GREATEST, ORDER, Numbers, body, compare, drop, last_of, pair, run
from tests.skies import reckoned_compared, reckoned_span, strewn_pair

EARLIER = [1]
SAME_INSTANT = [2]
LATER = [3]

# Each two meetings' dx, dy, du, dv and reach: the first one's first is earlier by less than 1e-17, at about 7.
VERY_NEAR = [
    ((325, -993, -12, 97, 396), (-87, 851, 19, -96, 185)),
    ((744, -694, -75, 90, 228), (604, 647, -97, -43, 354)),
    ((-764, -407, 85, 19, 322), (734, -382, -79, 68, 204)),
]


class CompareTest(unittest.TestCase):
    def check(self, one, other, answer):
        """one and other are a pair's dx, dy, du, dv and reach."""
        sky = pair(*one, 10) + pair(*other, 20)
        mirrored = [4 - answer[0]]
        self.assertEqual(last_of(*sky, compare(0, 1, 2, 3)), answer)
        self.assertEqual(last_of(*sky, compare(1, 0, 3, 2)), answer)
        self.assertEqual(last_of(*sky, compare(2, 3, 0, 1)), mirrored)
        self.assertEqual(last_of(*sky, compare(3, 2, 0, 1)), mirrored)

    def test_whole_firsts(self):
        self.check((100, 0, -1, 0, 20), (101, 0, -1, 0, 20), EARLIER)
        self.check((100, 0, -1, 0, 20), (99, 0, -1, 0, 20), LATER)
        self.check((100, 0, -1, 0, 20), (0, 180, 0, -2, 20), SAME_INSTANT)

    def test_fractions(self):
        # 80/3 against 53/2, and against 160/6.
        self.check((100, 0, -3, 0, 20), (73, 0, -2, 0, 20), LATER)
        self.check((100, 0, -3, 0, 20), (180, 0, -6, 0, 20), SAME_INSTANT)

    def test_the_same_root(self):
        self.check((100, 5, -1, 0, 20), (100, -5, -1, 0, 20), SAME_INSTANT)
        self.check((100, 5, -1, 0, 20), (-5, -100, 0, 1, 20), SAME_INSTANT)

    def test_the_same_root_told_by_other_numbers(self):
        self.check((100, 5, -1, 0, 20), (200, 10, -2, 0, 40), SAME_INSTANT)
        self.check((100, 5, -1, 0, 20), (700, 35, -7, 0, 140), SAME_INSTANT)
        self.check((200, 10, -2, 0, 40), (-15, 300, 0, -3, 60), SAME_INSTANT)

    def test_a_root_against_a_whole_number(self):
        # 2000 less the root of 160000 - 1, which is 399.99875..
        self.check((2000, 1, -1, 0, 400), (1602, 0, -1, 0, 2), LATER)
        self.check((2000, 1, -1, 0, 400), (1603, 0, -1, 0, 2), EARLIER)
        self.check((2000, 0, -1, 0, 400), (1602, 0, -1, 0, 2), SAME_INSTANT)

    def test_roots_that_differ_by_very_little(self):
        for one, other in VERY_NEAR:
            with self.subTest(one=one, other=other):
                self.check(one, other, EARLIER)

    def test_already_is_the_instant_0(self):
        self.check((3, 0, -1, 0, 20), (0, 0, 50, 0, 40), SAME_INSTANT)
        self.check((3, 0, -1, 0, 20), (3, 0, 0, 0, 20), SAME_INSTANT)
        self.check((3, 0, -1, 0, 20), (20, 0, -1, 0, 20), SAME_INSTANT)
        self.check((3, 0, -1, 0, 20), (21, 0, -100, 0, 20), EARLIER)

    def test_never(self):
        meeting = pair(100, 0, -1, 0, 20, 10)
        already = pair(1, 0, -1, 0, 20, 10)
        never = pair(100, 20, -1, 0, 20, 20)
        standing = pair(100, 0, 0, 0, 20, 30)
        for sky in (meeting + never, never + meeting, already + never, never + standing):
            self.assertEqual(last_of(*sky, compare(0, 1, 2, 3)), [0])
            self.assertEqual(last_of(*sky, compare(2, 3, 0, 1)), [0])

    def test_pairs_may_share_bodies(self):
        three = [body(0, 0, 0, 0, 10, 1), body(100, 0, -1, 0, 10, 2), body(-100, 0, 2, 0, 10, 3)]
        found = run(*three, compare(0, 1, 0, 2), compare(2, 0, 1, 2), compare(1, 2, 1, 2), compare(0, 1, 1, 0))
        # The firsts are 80 of 0 and 1, 40 of 0 and 2, 60 of 1 and 2.
        self.assertEqual(found[3:], [LATER, EARLIER, SAME_INSTANT, SAME_INSTANT])

    def test_as_reckoned_with_many_digits(self):
        numbers = Numbers(3)
        kinds = {0: 0, 1: 0, 2: 0, 3: 0}
        for bounds in [(300, 50, 200), (40, 8, 20), (12, 2, 4)] * 800:
            four = strewn_pair(numbers, *bounds) + strewn_pair(numbers, *bounds)
            one = reckoned_span(four[0][:4], four[1][:4], four[0][4] + four[1][4], False)
            other = reckoned_span(four[2][:4], four[3][:4], four[2][4] + four[3][4], False)
            expected = 0
            if one is not None and other is not None:
                expected = 2 + reckoned_compared(one[1], other[1])
            kinds[expected] += 1
            sky = [body(*told, far) for far, told in enumerate(four)]
            with self.subTest(four=four):
                self.assertEqual(last_of(*sky, compare(0, 1, 2, 3)), [expected])
        self.assertGreater(min(kinds.values()), 50, kinds)


class RefusalTest(unittest.TestCase):
    def test_refused(self):
        sky = pair(100, 0, -1, 0, 20, 1) + pair(101, 0, -1, 0, 20, 3)
        for four in [(0, 1, 2, 4), (0, 1, 4, 2), (4, 1, 2, 3), (0, 4, 2, 3), (0, 0, 2, 3), (0, 1, 2, 2), (0, 0, 0, 0),
                     (GREATEST, 1, 2, 3), (0, 1, 2, GREATEST), (4, 4, 5, 5)]:
            with self.subTest(four=four):
                before = run(*sky, ORDER)[-1]
                found = run(*sky, compare(*four), ORDER, drop(3))
                self.assertEqual(found[4:], [[-1], before, [3]])

    def test_refused_even_if_a_pair_never_meets(self):
        two = pair(100, 20, -1, 0, 20, 1)
        found = run(*two, compare(0, 1, 0, 2), compare(1, 1, 0, 1), compare(0, 1, 0, 1))
        self.assertEqual(found[2:], [[-1], [-1], [0]])

    def test_refused_without_bodies(self):
        self.assertEqual(run(compare(0, 1, 2, 3)), [[-1]])


if __name__ == "__main__":
    unittest.main()
