"""Promise 9: where."""

import unittest

from tests.skies import BEGINS, GREATEST, ORDER, body, drop, last_of, run, told_body, where

REFUSED = [-1]


def told(x, y):
    return [0, 2, x, y]


class WhereTest(unittest.TestCase):
    def test_at_the_instant_0(self):
        self.assertEqual(last_of(body(12, -34, 5, 6, 10, 1), where(0, 0)), told(12, -34))

    def test_goes_on_evenly(self):
        one = body(12, -34, 5, -6, 10, 1)
        self.assertEqual(run(one, where(0, 1), where(0, 2), where(0, 100))[1:],
                         [told(17, -40), told(22, -46), told(512, -634)])

    def test_at_rest(self):
        self.assertEqual(last_of(body(12, -34, 0, 0, 10, 1), where(0, 100000)), told(12, -34))

    def test_below_0(self):
        self.assertEqual(last_of(body(3, 4, -1, -2, 10, 1), where(0, 10)), told(-7, -16))
        self.assertEqual(last_of(body(-3, -4, 1, 2, 10, 1), where(0, 1)), told(-2, -2))
        self.assertEqual(last_of(body(-3, 4, 1, -2, 10, 1), where(0, 3)), told(0, -2))

    def test_the_ends_of_what_can_be_told(self):
        least, greatest = told_body(0, 0, 0, 0, 1, 0), told_body(2000, 2000, 100, 100, 200, 1000)
        self.assertEqual(run(least, greatest, where(0, 0), where(1, 0), where(0, 100000), where(1, 100000))[2:],
                         [told(-1000, -1000), told(1000, 1000), told(-5001000, -5001000), told(5001000, 5001000)])

    def test_of_each_body(self):
        eight = [body(k, 10 * k, k - 4, 4 - k, 10, k) for k in range(8)]
        found = run(*eight, *[where(k, 7) for k in range(8)])[8:]
        self.assertEqual(found, [told(k + 7 * (k - 4), 10 * k + 7 * (4 - k)) for k in range(8)])

    def test_after_a_drop(self):
        three = [body(1, 1, 0, 0, 10, 1), body(2, 2, 0, 0, 10, 2), body(3, 3, 0, 0, 10, 3)]
        found = run(*three, drop(1), where(0, 5), where(1, 5), where(2, 5))
        self.assertEqual(found[3:], [[2], told(1, 1), told(3, 3), REFUSED])

    def test_a_body_stays_as_it_was_told(self):
        found = run(body(1, 2, 3, 4, 10, 1), where(0, 9), where(0, 0), where(0, 9))
        self.assertEqual(found[1:], [told(28, 38), told(1, 2), told(28, 38)])


class RefusalTest(unittest.TestCase):
    def test_refused(self):
        one = body(1, 2, 3, 4, 10, 1)
        for number, instant in [(1, 0), (8, 0), (GREATEST, 0), (0, 100001), (0, GREATEST), (1, 100001)]:
            with self.subTest(number=number, instant=instant):
                found = run(one, where(number, instant), where(0, 100000), ORDER, drop(0))
                self.assertEqual(found[1:], [REFUSED, told(300001, 400002), [0, 0], [0]])

    def test_without_bodies(self):
        self.assertEqual(run(where(0, 0), BEGINS, where(0, 100001)), [REFUSED, [0], REFUSED])


if __name__ == "__main__":
    unittest.main()
