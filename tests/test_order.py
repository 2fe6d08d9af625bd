"""Promise 4: order."""

import unittest

from tests.skies import BEGINS, ORDER, Numbers, body, drop, last_of, pair, run
from tests.skies import reckoned_order, strewn_bodies
from tests.test_compare import VERY_NEAR


def told(*rows):
    """What order is to answer of the rows: the lesser body, the other one, and 1 or 0."""
    return [len(rows), 3 * len(rows)] + [number for row in rows for number in row]


class OrderTest(unittest.TestCase):
    def test_no_meetings(self):
        self.assertEqual(run(ORDER), [[0, 0]])
        self.assertEqual(last_of(body(0, 0, 0, 0, 5, 1), ORDER), [0, 0])
        self.assertEqual(last_of(*pair(100, 20, -1, 0, 20, 1), ORDER), [0, 0])

    def test_one_meeting(self):
        self.assertEqual(last_of(*pair(100, 0, -1, 0, 20, 1), ORDER), told((0, 1, 0)))

    def test_by_their_firsts(self):
        # The bodies 0 and 1 meet at 80, 0 and 2 at 40, 1 and 2 at 60.
        three = [body(0, 0, 0, 0, 10, 1), body(100, 0, -1, 0, 10, 2), body(-100, 0, 2, 0, 10, 3)]
        self.assertEqual(last_of(*three, ORDER), told((0, 2, 0), (1, 2, 0), (0, 1, 0)))

    def test_of_one_instant_by_the_lesser_body_then_the_other(self):
        # All three come to the body at 0, 0 at the instant 80, wherever that one stands in the order.
        middle = (0, 0, 0, 0, 10)
        round_about = [(100, 0, -1, 0, 10), (-180, 0, 2, 0, 10), (0, 260, 0, -3, 10)]
        orders = {
            0: told((0, 1, 0), (0, 2, 1), (0, 3, 1)),
            1: told((0, 1, 0), (1, 2, 1), (1, 3, 1)),
            2: told((0, 2, 0), (1, 2, 1), (2, 3, 1)),
            3: told((0, 3, 0), (1, 3, 1), (2, 3, 1)),
        }
        for place, expected in orders.items():
            with self.subTest(place=place):
                four = list(round_about)
                four.insert(place, middle)
                found = last_of(*[body(*numbers, far) for far, numbers in enumerate(four)], ORDER)
                # The others meet one another too, near the middle, but later.
                self.assertEqual(found[2:11], expected[2:])
                self.assertEqual(found, reckoned_order(four))

    def test_two_instants_with_several_meetings_each(self):
        # At 10 the bodies 0 and 3, 1 and 2; at 0 the bodies 4 and 5, 6 and 7.
        eight = [(-500, 0, 0, 0, 5), (500, 0, 0, 0, 5), (500, 20, 0, -1, 5), (-500, 20, 0, -1, 5),
                 (-500, 500, 0, 0, 5), (-500, 501, 0, 0, 5), (500, 500, 0, 0, 5), (490, 500, 1, 0, 5)]
        found = last_of(*[body(*numbers, far) for far, numbers in enumerate(eight)], ORDER)
        self.assertEqual(found, told((4, 5, 0), (6, 7, 1), (0, 3, 0), (1, 2, 1)))

    def test_roots_that_differ_by_very_little(self):
        for one, other in VERY_NEAR:
            for sky, expected in [(pair(*one, 1) + pair(*other, 3), [(0, 1), (2, 3)]),
                                  (pair(*other, 1) + pair(*one, 3), [(2, 3), (0, 1)])]:
                with self.subTest(sky=sky):
                    found = last_of(*sky, ORDER)
                    rows = [tuple(found[k:k + 3]) for k in range(2, len(found), 3)]
                    pairs = [row[:2] for row in rows if row[:2] in expected]
                    self.assertEqual(pairs, expected)
                    self.assertEqual([row[2] for row in rows if row[:2] == expected[1]], [0])

    def test_eight_that_lie_over_one_another_for_ever(self):
        eight = [body(k, 0, 1, 1, 10, 100 - k) for k in range(8)]
        rows = [(i, j, 0 if (i, j) == (0, 1) else 1) for i in range(8) for j in range(i + 1, 8)]
        self.assertEqual(last_of(*eight, ORDER), told(*rows))

    def test_already_met_and_met_from_0_on_are_of_one_instant(self):
        four = [body(0, 0, 0, 0, 5, 1), body(10, 0, -1, 0, 5, 2), body(500, 0, 0, 0, 5, 3), body(501, 0, 0, 0, 5, 4)]
        self.assertEqual(last_of(*four, ORDER)[:8], [2, 6, 0, 1, 0, 2, 3, 1])

    def test_after_a_drop_and_after_begins(self):
        three = [body(0, 0, 0, 0, 10, 1), body(100, 0, -1, 0, 10, 2), body(-100, 0, 2, 0, 10, 3)]
        found = run(*three, drop(0), ORDER, drop(1), ORDER, BEGINS, ORDER)
        self.assertEqual(found[3:], [[2], told((0, 1, 0)), [1], [0, 0], [0], [0, 0]])

    def test_as_reckoned_with_many_digits(self):
        numbers = Numbers(4)
        for bounds in [(1000, 50, 200), (100, 5, 20), (10, 1, 2)] * 40:
            eight = strewn_bodies(numbers, 8, *bounds)
            with self.subTest(eight=eight):
                found = last_of(*[body(*numbers_told, far) for far, numbers_told in enumerate(eight)], ORDER)
                self.assertEqual(found, reckoned_order(eight))


if __name__ == "__main__":
    unittest.main()
