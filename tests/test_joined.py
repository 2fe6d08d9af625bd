"""Promise 6: joined."""

import itertools
import unittest

from tests.skies import GREATEST, ORDER, Numbers, body, drop, joined, last_of, run
from tests.skies import reckoned_joined, sky_of, strewn_sky


def told(*leasts):
    """What joined is to answer of the least numbers."""
    return [len(set(leasts)), len(leasts)] + list(leasts)


class JoinedTest(unittest.TestCase):
    def test_without_bodies(self):
        self.assertEqual(run(joined(0), joined(100000), joined(100001)), [[0, 0], [0, 0], [-1]])

    def test_each_alone(self):
        self.assertEqual(last_of(body(0, 0, 0, 0, 10, 5), joined(7)), told(0))
        self.assertEqual(last_of(body(0, 0, 0, 0, 10, 5), body(50, 0, 0, 0, 10, 6), joined(7)), told(0, 1))

    def test_two_that_come_and_go(self):
        two = [body(0, 0, 0, 0, 10, 1), body(100, 0, -1, 0, 10, 2)]
        found = run(*two, *[joined(t) for t in (0, 80, 81, 100, 119, 120, 121)])[2:]
        self.assertEqual(found, [told(0, least) for least in (1, 1, 0, 0, 0, 1, 1)])

    def test_how_far_off_does_not_matter(self):
        two = [body(0, 0, 0, 0, 10, 900), body(15, 0, 0, 0, 10, 2)]
        self.assertEqual(last_of(*two, joined(0)), told(0, 0))
        self.assertEqual(last_of(*reversed(two), joined(0)), told(0, 0))

    def test_one_that_is_hidden_is_joined_too(self):
        self.assertEqual(last_of(body(0, 0, 0, 0, 30, 1), body(0, 0, 0, 0, 10, 2), joined(0)), told(0, 0))

    def test_only_touching_are_not_joined(self):
        self.assertEqual(last_of(body(0, 0, 0, 0, 10, 1), body(20, 0, 0, 0, 10, 2), joined(0)), told(0, 1))
        self.assertEqual(last_of(body(0, 0, 0, 0, 10, 1), body(100, 20, -1, 0, 10, 2), joined(100)), told(0, 1))
        chain = [body(0, 0, 0, 0, 10, 1), body(20, 0, 0, 0, 10, 2), body(39, 0, 0, 0, 10, 3)]
        self.assertEqual(last_of(*chain, joined(0)), told(0, 1, 1))

    def test_joined_only_through_others(self):
        # A row of eight, each lying over those beside it alone, in many orders.
        row = [(15 * k, 0, 1, 1, 10, k) for k in range(8)]
        orders = [[0, 7, 1, 6, 2, 5, 3, 4], [0, 2, 4, 6, 1, 3, 5, 7], [7, 5, 3, 1, 6, 4, 2, 0], [3, 4, 2, 5, 1, 6, 0, 7]]
        for order in [list(range(8)), list(range(7, -1, -1))] + orders:
            with self.subTest(order=order):
                sky = sky_of([row[k] for k in order])
                self.assertEqual(last_of(*sky, joined(0)), told(*[0] * 8))

    def test_the_row_broken(self):
        row = [body(15 * k, 0, 0, 0, 10, k) for k in range(8)]
        self.assertEqual(last_of(*row, drop(3), joined(0)), told(0, 0, 0, 3, 3, 3, 3))
        self.assertEqual(last_of(*row, drop(0), joined(0)), told(*[0] * 7))
        self.assertEqual(last_of(*row, drop(3), drop(1), joined(0)), told(0, 1, 2, 2, 2, 2))

    def test_groups_that_stand_between_one_another(self):
        # Those at 0 and those at 500, told by turns, in all orders of three and two.
        for places in sorted(set(itertools.permutations([0, 0, 0, 500, 500]))):
            with self.subTest(places=places):
                sky = [body(place + number, 0, 0, 0, 10, number) for number, place in enumerate(places)]
                self.assertEqual(last_of(*sky, joined(3)), told(*[places.index(place) for place in places]))

    def test_the_last_one_joins_two_groups(self):
        four = [body(0, 0, 0, 0, 10, 1), body(30, 0, 0, 0, 10, 2), body(45, 0, 0, 0, 10, 3), body(15, 0, 0, 0, 10, 4)]
        self.assertEqual(run(*four[:3], joined(0), four[3], joined(0))[3:], [told(0, 1, 1), [3], told(0, 0, 0, 0)])

    def test_the_greatest_instant(self):
        sky = [body(0, 0, 50, -50, 10, 1), body(0, 0, -50, 50, 10, 2), body(19, 0, 50, -50, 10, 3)]
        self.assertEqual(run(*sky, joined(0), joined(1), joined(100000))[3:],
                         [told(0, 0, 0), told(0, 1, 0), told(0, 1, 0)])

    def test_as_reckoned_with_many_digits(self):
        numbers = Numbers(9)
        counts = {}
        for place, pace, radius, latest in [(1000, 50, 200, 20), (60, 3, 15, 20), (9, 1, 3, 10), (5, 2, 2, 4)] * 60:
            bodies = strewn_sky(numbers, numbers.between(1, 8), place, pace, radius)
            instants = [numbers.between(0, latest) for number in range(3)]
            expected = [reckoned_joined(bodies, instant) for instant in instants]
            counts[expected[0][0]] = counts.get(expected[0][0], 0) + 1
            with self.subTest(bodies=bodies, instants=instants):
                self.assertEqual(run(*sky_of(bodies), *[joined(t) for t in instants])[len(bodies):], expected)
        self.assertEqual(sorted(counts), list(range(1, 9)), counts)


class RefusalTest(unittest.TestCase):
    def test_refused(self):
        sky = [body(0, 0, 0, 0, 30, 1), body(0, 0, 0, 0, 10, 2)]
        for instant in [100001, 100002, GREATEST]:
            with self.subTest(instant=instant):
                found = run(*sky, joined(instant), joined(100000), ORDER, drop(1))
                self.assertEqual(found[2:], [[-1], told(0, 0), [1, 3, 0, 1, 0], [1]])


if __name__ == "__main__":
    unittest.main()
