"""What the interface says of all calls: the form of the answers, and that nothing is changed or kept."""

import contextlib
import io
import unittest

from movingdiscs.sky import answers
from tests.skies import BEGINS, ORDER, Numbers, apart, body, compare, drop, hides, meets, told_body

SKY = [
    body(0, 0, 0, 0, 30, 1), body(100, 5, -1, 0, 10, 2), body(0, 0, 3, 0, 30, 1), body(1, 1, 0, 0, 4, 7),
    meets(0, 1), meets(0, 2), meets(0, 0), hides(0, 1), hides(2, 0), compare(0, 1, 0, 2), compare(0, 1, 0, 9),
    ORDER, drop(1), drop(5), ORDER, told_body(2001, 0, 0, 0, 0, 0), BEGINS, ORDER,
]


def flat(calls):
    return [number for call in calls for number in call]


class FormTest(unittest.TestCase):
    def test_how_many_numbers_then_they(self):
        calls = flat([
            body(0, 0, 0, 0, 30, 1), body(100, 0, -1, 0, 10, 2), body(5, 0, 0, 0, 1, 3), body(0, 0, 0, 0, 30, 1),
            meets(0, 1), meets(0, 2), hides(0, 1), hides(1, 0), compare(0, 1, 0, 2), ORDER,
            drop(2), meets(0, 2), BEGINS,
        ])
        self.assertEqual(answers(calls), [
            1, 0,
            1, 1,
            1, 2,
            1, -4,
            7, 1, 2, 60, 1, 2, 140, 1,
            5, 2, 2, 0, 1, 0,
            7, 1, 2, 80, 1, 2, 120, 1,
            1, 0,
            1, 3,
            11, 3, 9, 0, 2, 0, 0, 1, 0, 1, 2, 0,
            1, 2,
            1, -1,
            1, 0,
        ])

    def test_order_without_meetings(self):
        self.assertEqual(answers([6]), [2, 0, 0])

    def test_any_call_may_be_the_first(self):
        self.assertEqual(answers([0]), [1, 0])
        self.assertEqual(answers([1, 0, 0, 0, 0, 1, 0]), [1, 0])
        self.assertEqual(answers([2, 0]), [1, -1])
        self.assertEqual(answers([3, 0, 1]), [1, -1])
        self.assertEqual(answers([4, 0, 1]), [1, -1])
        self.assertEqual(answers([5, 0, 1, 2, 3]), [1, -1])

    def test_a_list_of_whole_numbers_is_given_back(self):
        given = answers(flat(SKY))
        self.assertIs(type(given), list)
        self.assertEqual({type(number) for number in given}, {int})
        self.assertEqual(len(apart(given)), len(SKY))

    def test_sixty_calls(self):
        eight = [body(k, 0, 1, 1, 10, k) for k in range(8)]
        calls = flat(eight + [ORDER] * 52)
        found = apart(answers(calls))
        self.assertEqual(len(found), 60)
        self.assertEqual([len(answer) for answer in found[8:]], [86] * 52)


class NothingKeptTest(unittest.TestCase):
    def test_what_is_handed_in_stays_as_it_was(self):
        calls = flat(SKY)
        before = list(calls)
        answers(calls)
        self.assertEqual(calls, before)

    def test_what_is_handed_in_is_not_changed_for_a_while_either(self):
        class Watched(list):
            def refuse(self, *handed):
                raise AssertionError("changed")

            __setitem__ = __delitem__ = __iadd__ = __imul__ = refuse
            append = extend = insert = pop = remove = clear = reverse = sort = refuse

        self.assertEqual(answers(Watched(flat(SKY))), answers(flat(SKY)))

    def test_a_second_time_answers_as_the_first_did(self):
        calls = flat(SKY)
        first = answers(calls)
        answers(flat([body(0, 0, 0, 0, 30, 1)] + [ORDER]))
        self.assertEqual(answers(calls), first)
        self.assertEqual(answers([6, 2, 0]), [2, 0, 0, 1, -1])

    def test_what_is_given_back_is_a_list_of_its_own(self):
        calls = flat(SKY)
        first = answers(calls)
        kept = list(first)
        first.clear()
        self.assertEqual(answers(calls), kept)

    def test_nothing_is_printed(self):
        printed = io.StringIO()
        with contextlib.redirect_stdout(printed), contextlib.redirect_stderr(printed):
            answers(flat(SKY))
        self.assertEqual(printed.getvalue(), "")


class RefusalsChangeNothingTest(unittest.TestCase):
    def test_strewn_calls_without_the_refused_ones_answer_the_same(self):
        numbers = Numbers(5)
        refused_in_all = 0
        for line in range(60):
            calls = self.strewn_calls(numbers)
            found = apart(answers(flat(calls)))
            taken = [call for call, answer in zip(calls, found) if answer[0] >= 0]
            good = [answer for answer in found if answer[0] >= 0]
            self.assertEqual([answer for answer in found if answer[0] < 0 and len(answer) > 1], [])
            refused_in_all += len(found) - len(good)
            with self.subTest(calls=calls):
                self.assertEqual(apart(answers(flat(taken))), good)
        self.assertGreater(refused_in_all, 300)

    def strewn_calls(self, numbers):
        calls = []
        for call in range(50):
            kind = numbers.between(0, 12)
            if kind == 0:
                calls.append(drop(numbers.between(0, 8)))
            elif kind == 1:
                calls.append(ORDER)
            elif kind == 2:
                calls.append(compare(*[numbers.between(0, 5) for number in range(4)]))
            elif kind == 3:
                calls.append(hides(numbers.between(0, 8), numbers.between(0, 8)))
            elif kind == 4:
                calls.append(meets(numbers.between(0, 8), numbers.between(0, 8)))
            elif kind == 5 and numbers.between(0, 5) == 0:
                calls.append(BEGINS)
            else:
                calls.append(told_body(
                    numbers.between(900, 1100), numbers.between(900, 1100), numbers.between(40, 60),
                    numbers.between(40, 60), numbers.between(0, 40), numbers.between(0, 20)))
        return calls


if __name__ == "__main__":
    unittest.main()
