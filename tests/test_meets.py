"""Promise 2: meets."""

import unittest

from tests.skies import GREATEST, ORDER, Numbers, body, drop, last_of, meets, run
from tests.skies import reckoned_answer, reckoned_span, strewn_pair

NEVER = [0]
FOR_EVER = [2, 2, 0, 1, 0]


def met(one, other):
    """What meets answers of two bodies, told as (x, y, u, v, r)."""
    return last_of(body(*one, 1), body(*other, 2), meets(0, 1))


class MeetsTest(unittest.TestCase):
    def check(self, one, other, answer):
        self.assertEqual(met(one, other), answer)
        self.assertEqual(met(other, one), answer)
        self.assertEqual(last_of(body(*one, 1), body(*other, 2), meets(1, 0)), answer)

    def test_whole_first_and_last(self):
        self.check((0, 0, 0, 0, 10), (100, 0, -1, 0, 10), [1, 2, 80, 1, 2, 120, 1])
        self.check((0, 0, 0, 3, 7), (0, 50, 0, 0, 3), [1, 2, 13, 0, 2, 20, 1])

    def test_first_and_last_that_are_fractions(self):
        self.check((0, 0, 0, 0, 10), (100, 0, -3, 0, 10), [1, 2, 26, 0, 2, 40, 1])
        self.check((0, 0, 0, 0, 10), (101, 0, -7, 0, 10), [1, 2, 11, 0, 2, 17, 0])

    def test_first_and_last_that_are_roots(self):
        # (100 - t) ** 2 + 25 = 400: t is 100 less, and more, the root of 375, which is 19.36..
        self.check((0, 0, 0, 0, 10), (100, 5, -1, 0, 10), [1, 2, 80, 0, 2, 119, 0])

    def test_both_move_aslant(self):
        # Against one another by -3, 4 from 30, -40: 5 an instant, from 50 apart.
        self.check((-10, 20, 1, -1, 4), (20, -20, -2, 3, 6), [1, 2, 8, 1, 2, 12, 1])

    def test_last_lies_behind_a_whole_first_of_the_same_number(self):
        self.check((0, 0, 0, 0, 1), (10, 0, -8, 0, 1), [1, 2, 1, 1, 2, 1, 0])

    def test_first_and_last_between_the_same_whole_instants(self):
        self.check((0, 0, 0, 0, 1), (50, 0, -40, 0, 1), [1, 2, 1, 0, 2, 1, 0])
        self.check((0, 0, 50, 0, 1), (50, 0, -50, 0, 1), [1, 2, 0, 0, 2, 0, 0])

    def test_far_away_in_time(self):
        self.check((-1000, 0, 0, 0, 1), (1000, 0, -1, 0, 1), [1, 2, 1998, 1, 2, 2002, 1])

    def test_greatest_bounds(self):
        self.check((-1000, -1000, 50, 50, 200), (1000, 1000, -50, -50, 200), [1, 2, 17, 0, 2, 22, 0])

    def test_only_touching_in_passing_is_no_meeting(self):
        self.check((0, 0, 0, 0, 10), (100, 20, -1, 0, 10), NEVER)
        self.check((0, 0, 0, 0, 10), (100, 19, -1, 0, 10), [1, 2, 93, 0, 2, 106, 0])
        self.check((0, 0, 0, 0, 10), (100, 21, -1, 0, 10), NEVER)

    def test_touching_at_the_instant_0(self):
        self.check((0, 0, 0, 0, 10), (20, 0, -1, 0, 10), [1, 2, 0, 1, 2, 40, 1])
        self.check((0, 0, 0, 0, 10), (20, 0, 1, 0, 10), NEVER)
        self.check((0, 0, 0, 0, 10), (20, 0, 0, 1, 10), NEVER)
        self.check((0, 0, 0, 0, 10), (20, 0, 0, 0, 10), NEVER)
        self.check((0, 0, 0, 0, 10), (12, 16, -1, 0, 10), [1, 2, 0, 1, 2, 24, 1])

    def test_already(self):
        self.check((0, 0, 0, 0, 10), (19, 0, 1, 0, 10), [2, 2, 0, 1, 2, 1, 1])
        self.check((0, 0, 0, 0, 10), (19, 0, 2, 0, 10), [2, 2, 0, 1, 2, 0, 0])
        self.check((0, 0, 0, 0, 10), (19, 0, -1, 0, 10), [2, 2, 0, 1, 2, 39, 1])
        self.check((0, 0, 0, 0, 10), (0, 0, 0, 1, 10), [2, 2, 0, 1, 2, 20, 1])
        self.check((0, 0, 0, 0, 10), (12, 15, 1, 1, 10), [2, 2, 0, 1, 2, 0, 0])

    def test_for_ever(self):
        self.check((0, 0, 0, 0, 10), (19, 0, 0, 0, 10), FOR_EVER)
        self.check((0, 0, -7, 9, 10), (11, 16, -7, 9, 10), FOR_EVER)
        self.check((5, 5, 50, 50, 1), (5, 5, 50, 50, 1), FOR_EVER)

    def test_never_as_they_do_not_move_against_one_another(self):
        self.check((0, 0, 3, 4, 10), (21, 0, 3, 4, 10), NEVER)
        self.check((0, 0, 3, 4, 10), (500, 500, 3, 4, 10), NEVER)

    def test_never_as_they_go_apart(self):
        self.check((0, 0, 0, 0, 10), (21, 0, 1, 0, 10), NEVER)
        self.check((0, 0, 0, 0, 10), (21, 0, 0, 1, 10), NEVER)
        self.check((0, 0, -5, 0, 10), (40, 3, -4, 0, 10), NEVER)

    def test_never_as_they_pass_far_apart(self):
        self.check((0, 0, 0, 0, 10), (100, 500, -1, 0, 10), NEVER)

    def test_how_far_off_is_of_no_matter(self):
        near = body(0, 0, 0, 0, 10, 0)
        self.assertEqual(last_of(near, body(100, 0, -1, 0, 10, 1000), meets(0, 1)), [1, 2, 80, 1, 2, 120, 1])
        self.assertEqual(last_of(body(100, 0, -1, 0, 10, 1000), near, meets(0, 1)), [1, 2, 80, 1, 2, 120, 1])

    def test_as_reckoned_with_many_digits(self):
        numbers = Numbers(1)
        kinds = {0: 0, 1: 0, 2: 0}
        for bounds in [(1000, 50, 200), (100, 3, 60), (12, 2, 6)] * 500:
            one, other = strewn_pair(numbers, *bounds)
            expected = reckoned_answer(reckoned_span(one[:4], other[:4], one[4] + other[4], False))
            kinds[expected[0]] += 1
            with self.subTest(one=one, other=other):
                self.check(one, other, expected)
        self.assertGreater(min(kinds.values()), 50, kinds)


class RefusalTest(unittest.TestCase):
    def test_refused(self):
        two = [body(0, 0, 0, 0, 10, 1), body(100, 0, -1, 0, 10, 2)]
        for one, other in [(0, 2), (2, 0), (2, 3), (0, 0), (1, 1), (2, 2), (0, GREATEST), (GREATEST, 1)]:
            with self.subTest(one=one, other=other):
                found = run(*two, meets(one, other), ORDER, drop(1))
                self.assertEqual(found[2:], [[-1], [1, 3, 0, 1, 0], [1]])

    def test_refused_without_bodies(self):
        self.assertEqual(run(meets(0, 1), meets(0, 0)), [[-1], [-1]])

    def test_refused_with_eight_bodies(self):
        eight = [body(0, 0, 0, 0, 5, k) for k in range(8)]
        self.assertEqual(run(*eight, meets(0, 7), meets(7, 8), meets(7, 7))[8:], [FOR_EVER, [-1], [-1]])


if __name__ == "__main__":
    unittest.main()
