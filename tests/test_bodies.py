"""Promise 1: begins, body, drop."""

import unittest

from movingdiscs.sky import body_told
from tests.skies import BEGINS, GREATEST, ORDER, body, drop, last_of, meets, run, told_body


def eight():
    """Eight bodies far from one another, that never meet."""
    return [body(-900 + 200 * k, 0, 0, 0, 5, 10 * k) for k in range(8)]


class BeginsTest(unittest.TestCase):
    def test_answers_0_on_a_new_sky(self):
        self.assertEqual(run(BEGINS), [[0]])

    def test_leaves_no_bodies(self):
        first = body(0, 0, 0, 0, 5, 1)
        second = body(3, 0, 0, 0, 5, 2)
        found = run(first, second, BEGINS, drop(0), meets(0, 1), ORDER, second, first)
        self.assertEqual(found, [[0], [1], [0], [-1], [-1], [0, 0], [0], [1]])

    def test_after_eight_there_is_room_again(self):
        found = run(*eight(), BEGINS, *eight())
        self.assertEqual(found, [[k] for k in range(8)] + [[0]] + [[k] for k in range(8)])


class BodyTest(unittest.TestCase):
    def test_answers_its_number(self):
        self.assertEqual(run(*eight()), [[k] for k in range(8)])

    def test_what_is_told_is_greater_than_what_is_meant(self):
        least = body_told([0, 2000, 0, 100, 200, 1000])
        self.assertEqual((least.x, least.y, least.u, least.v), (-1000, 1000, -50, 50))
        self.assertEqual((least.radius, least.far), (200, 1000))

    def test_bounds(self):
        good = [1000, 1000, 50, 50, 10, 7]
        edges = [
            (0, [0, 1, 2000], [2001, GREATEST]),
            (1, [0, 1, 2000], [2001, GREATEST]),
            (2, [0, 1, 100], [101, GREATEST]),
            (3, [0, 1, 100], [101, GREATEST]),
            (4, [1, 200], [0, 201, GREATEST]),
            (5, [0, 1, 1000], [1001, GREATEST]),
        ]
        for place, taken, refused in edges:
            for number in taken + refused:
                with self.subTest(place=place, number=number):
                    told = list(good)
                    told[place] = number
                    self.assertEqual(run(told_body(*told)), [[0 if number in taken else -1]])

    def test_ninth_is_refused(self):
        ninth = body(0, 500, 0, 0, 5, 999)
        self.assertEqual(last_of(*eight(), ninth), [-5])

    def test_as_far_is_refused(self):
        two = [body(0, 0, 0, 0, 5, 3), body(100, 0, 0, 0, 5, 4)]
        found = run(*two, body(200, 0, 1, 0, 6, 3), body(200, 0, 0, 0, 5, 4))
        self.assertEqual(found, [[0], [1], [-4], [-4]])

    def test_as_far_0_is_refused(self):
        self.assertEqual(run(body(0, 0, 0, 0, 5, 0), body(100, 0, 0, 0, 5, 0)), [[0], [-4]])

    def test_out_of_bounds_is_told_before_full(self):
        self.assertEqual(last_of(*eight(), told_body(2001, 0, 0, 0, 5, 999)), [-1])
        self.assertEqual(last_of(*eight(), told_body(0, 0, 0, 0, 0, 999)), [-1])
        self.assertEqual(last_of(*eight(), told_body(0, 0, 0, 0, 5, 1001)), [-1])

    def test_out_of_bounds_is_told_before_as_far(self):
        for told in [[2001, 0, 0, 0, 5, 3], [0, 2001, 0, 0, 5, 3], [0, 0, 101, 0, 5, 3],
                     [0, 0, 0, 101, 5, 3], [0, 0, 0, 0, 0, 3], [0, 0, 0, 0, 201, 3]]:
            with self.subTest(told=told):
                self.assertEqual(last_of(body(0, 0, 0, 0, 5, 3), told_body(*told)), [-1])

    def test_full_is_told_before_as_far(self):
        self.assertEqual(last_of(*eight(), body(0, 500, 0, 0, 5, 70)), [-5])

    def test_after_a_refusal_all_is_as_it_was(self):
        two = [body(0, 0, 0, 0, 5, 1), body(30, 0, -1, 0, 5, 2)]
        bad = [told_body(2001, 0, 0, 0, 5, 9), body(0, 0, 0, 0, 9, 1)]
        third = body(0, 500, 0, 0, 5, 9)
        found = run(*two, *bad, meets(0, 1), ORDER, third, drop(2))
        self.assertEqual(found[2:], [[-1], [-4], [1, 2, 20, 1, 2, 40, 1], [1, 3, 0, 1, 0], [2], [2]])

    def test_after_a_full_sky_is_refused_all_is_as_it_was(self):
        found = run(*eight(), body(-900, 0, 0, 0, 5, 999), ORDER, drop(8), drop(7))
        self.assertEqual(found[8:], [[-5], [0, 0], [-1], [7]])


class DropTest(unittest.TestCase):
    def test_answers_how_many_there_are_then(self):
        self.assertEqual(run(*eight(), *[drop(0)] * 8)[8:], [[k] for k in range(7, -1, -1)])

    def test_no_such_body(self):
        self.assertEqual(run(drop(0)), [[-1]])
        self.assertEqual(last_of(body(0, 0, 0, 0, 5, 1), drop(1)), [-1])
        self.assertEqual(last_of(body(0, 0, 0, 0, 5, 1), drop(GREATEST)), [-1])
        self.assertEqual(last_of(*eight(), drop(8)), [-1])

    def test_after_a_refusal_all_is_as_it_was(self):
        found = run(body(0, 0, 0, 0, 5, 1), body(3, 0, 0, 0, 5, 2), drop(2), meets(0, 1), drop(1))
        self.assertEqual(found[2:], [[-1], [2, 2, 0, 1, 0], [1]])

    def test_those_behind_get_numbers_one_less(self):
        # The bodies 1 to 3 come to the body 0 at the instants 10, 20 and 30.
        sky = [body(0, 0, 0, 0, 5, 9)] + [body(10 + 10 * k, 0, -1, 0, 5, k) for k in (1, 2, 3)]
        before = run(*sky, meets(0, 1), meets(0, 2), meets(0, 3))[4:]
        self.assertEqual([answer[2] for answer in before], [10, 20, 30])
        after = run(*sky, drop(1), meets(0, 1), meets(0, 2), meets(0, 3))[4:]
        self.assertEqual(after, [[3], before[1], before[2], [-1]])
        after = run(*sky, drop(2), meets(0, 1), meets(0, 2), meets(0, 3))[4:]
        self.assertEqual(after, [[3], before[0], before[2], [-1]])
        after = run(*sky, drop(3), meets(0, 1), meets(0, 2), meets(0, 3))[4:]
        self.assertEqual(after, [[3], before[0], before[1], [-1]])

    def test_the_first_is_dropped(self):
        sky = [body(0, 900, 0, 0, 5, 9), body(0, 0, 0, 0, 5, 8), body(50, 0, -1, 0, 5, 7)]
        self.assertEqual(run(*sky, ORDER, drop(0), ORDER)[3:], [[1, 3, 1, 2, 0], [2], [1, 3, 0, 1, 0]])

    def test_its_far_and_its_room_are_free_again(self):
        again = body(0, 500, 0, 0, 5, 30)
        self.assertEqual(run(*eight(), drop(3), again, again)[8:], [[7], [7], [-5]])
        self.assertEqual(run(body(0, 0, 0, 0, 5, 1), drop(0), body(0, 0, 0, 0, 5, 1)), [[0], [0], [0]])


if __name__ == "__main__":
    unittest.main()
