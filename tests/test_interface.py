"""What the interface says of all calls: the form of the answers, and that nothing is changed or kept."""

import contextlib
import io
import unittest

from movingdiscs.sky import answers
from tests.skies import BEGINS, MOST, ORDER, Numbers, apart, body, compare, drop, flat, free, hides, joined, meets
from tests.skies import next_one, reckoned_line, seen, strewn_line, told_body, where

SKY = [
    body(0, 0, 0, 0, 30, 1), body(100, 5, -1, 0, 10, 2), body(0, 0, 3, 0, 30, 1), body(1, 1, 0, 0, 4, 7),
    meets(0, 1), meets(0, 2), meets(0, 0), hides(0, 1), hides(2, 0), compare(0, 1, 0, 2), compare(0, 1, 0, 9),
    ORDER, MOST, seen(0), seen(70), seen(100001), joined(0), joined(70), joined(100001), free(1, 0, 60), free(1, 0, 61),
    free(1, 5, 4), next_one(0), next_one(70), next_one(100001), where(1, 200), where(0, 100001),
    drop(1), drop(5), ORDER, MOST, told_body(2001, 0, 0, 0, 0, 0), BEGINS, ORDER, MOST, seen(0), joined(0), next_one(0),
]


class FormTest(unittest.TestCase):
    def test_how_many_numbers_then_they(self):
        calls = flat([
            body(0, 0, 0, 0, 30, 1), body(100, 0, -1, 0, 10, 2), body(5, 0, 0, 0, 1, 3), body(0, 0, 0, 0, 30, 1),
            meets(0, 1), meets(0, 2), hides(0, 1), hides(1, 0), compare(0, 1, 0, 2), ORDER,
            drop(2), meets(0, 2), BEGINS,
        ])
        self.assertEqual(answers(calls), [
            1, 0,
            1, 1,
            1, 2,
            1, -4,
            7, 1, 2, 60, 1, 2, 140, 1,
            5, 2, 2, 0, 1, 0,
            7, 1, 2, 80, 1, 2, 120, 1,
            1, 0,
            1, 3,
            11, 3, 9, 0, 2, 0, 0, 1, 0, 1, 2, 0,
            1, 2,
            1, -1,
            1, 0,
        ])

    def test_how_many_numbers_then_they_of_the_later_calls(self):
        calls = flat([
            body(0, 0, 0, 0, 30, 1), body(100, 0, -1, 0, 10, 2), body(-5, -7, 0, -1, 1, 3),
            MOST, seen(80), joined(80), free(1, 0, 60), free(1, 0, 61), next_one(0), next_one(60), where(2, 3),
            seen(100001), joined(100001), free(3, 0, 0), next_one(100001), where(3, 0),
        ])
        self.assertEqual(answers(calls), [
            1, 0,
            1, 1,
            1, 2,
            4, 1, 2, 0, 1,
            5, 2, 3, 0, 2, 0,
            5, 2, 3, 0, 0, 2,
            1, 1,
            1, 0,
            7, 0, 2, 0, 1, 2, 60, 1,
            1, -6,
            4, 0, 2, -5, -10,
            1, -1,
            1, -1,
            1, -1,
            1, -1,
            1, -1,
        ])

    def test_lists_that_are_empty(self):
        self.assertEqual(answers([6]), [2, 0, 0])
        self.assertEqual(answers([7]), [2, 0, 0])
        self.assertEqual(answers([8, 0]), [2, 0, 0])
        self.assertEqual(answers([9, 0]), [2, 0, 0])

    def test_any_call_may_be_the_first(self):
        self.assertEqual(answers([0]), [1, 0])
        self.assertEqual(answers([1, 0, 0, 0, 0, 1, 0]), [1, 0])
        self.assertEqual(answers([2, 0]), [1, -1])
        self.assertEqual(answers([3, 0, 1]), [1, -1])
        self.assertEqual(answers([4, 0, 1]), [1, -1])
        self.assertEqual(answers([5, 0, 1, 2, 3]), [1, -1])
        self.assertEqual(answers([6]), [2, 0, 0])
        self.assertEqual(answers([7]), [2, 0, 0])
        self.assertEqual(answers([8, 5]), [2, 0, 0])
        self.assertEqual(answers([9, 5]), [2, 0, 0])
        self.assertEqual(answers([10, 0, 5, 6]), [1, -1])
        self.assertEqual(answers([11, 5]), [1, -6])
        self.assertEqual(answers([12, 0, 5]), [1, -1])

    def test_a_list_of_whole_numbers_is_given_back(self):
        given = answers(flat(SKY))
        self.assertIs(type(given), list)
        self.assertEqual({type(number) for number in given}, {int})
        self.assertEqual(len(apart(given)), len(SKY))

    def test_sixty_calls(self):
        eight = [body(k, 0, 1, 1, 10, k) for k in range(8)]
        calls = flat(eight + [ORDER] * 52)
        found = apart(answers(calls))
        self.assertEqual(len(found), 60)
        self.assertEqual([len(answer) for answer in found[8:]], [86] * 52)


class NothingKeptTest(unittest.TestCase):
    def test_what_is_handed_in_stays_as_it_was(self):
        calls = flat(SKY)
        before = list(calls)
        answers(calls)
        self.assertEqual(calls, before)

    def test_what_is_handed_in_is_not_changed_for_a_while_either(self):
        class Watched(list):
            def refuse(self, *handed):
                raise AssertionError("changed")

            __setitem__ = __delitem__ = __iadd__ = __imul__ = refuse
            append = extend = insert = pop = remove = clear = reverse = sort = refuse

        self.assertEqual(answers(Watched(flat(SKY))), answers(flat(SKY)))

    def test_a_second_time_answers_as_the_first_did(self):
        calls = flat(SKY)
        first = answers(calls)
        answers(flat([body(0, 0, 0, 0, 30, 1)] + [ORDER]))
        self.assertEqual(answers(calls), first)
        self.assertEqual(answers([6, 2, 0]), [2, 0, 0, 1, -1])

    def test_what_is_given_back_is_a_list_of_its_own(self):
        calls = flat(SKY)
        first = answers(calls)
        kept = list(first)
        first.clear()
        self.assertEqual(answers(calls), kept)

    def test_nothing_is_printed(self):
        printed = io.StringIO()
        with contextlib.redirect_stdout(printed), contextlib.redirect_stderr(printed):
            answers(flat(SKY))
        self.assertEqual(printed.getvalue(), "")


class LinesTest(unittest.TestCase):
    def test_lines_of_all_kinds_as_reckoned_with_many_digits(self):
        numbers = Numbers(12)
        taken = [0] * 13
        refused = [0] * 13
        for line in range(130):
            calls = strewn_line(numbers, line % 13)
            with self.subTest(calls=calls):
                found = apart(answers(flat(calls)))
                self.assertEqual(found, reckoned_line(calls))
                for call, answer in zip(calls, found):
                    counts = taken if answer[0] >= 0 else refused
                    counts[call[0]] += 1
        self.assertGreater(min(taken), 100, taken)
        # These kinds have no refusal: begins, order and most.
        self.assertEqual([kind for kind in range(13) if refused[kind] == 0], [0, 6, 7])

    def test_without_the_refused_calls_the_others_answer_the_same(self):
        numbers = Numbers(5)
        refused_in_all = 0
        for line in range(60):
            calls = strewn_line(numbers, line % 13)
            found = apart(answers(flat(calls)))
            taken = [call for call, answer in zip(calls, found) if answer[0] >= 0]
            good = [answer for answer in found if answer[0] >= 0]
            self.assertEqual([answer for answer in found if answer[0] < 0 and len(answer) > 1], [])
            refused_in_all += len(found) - len(good)
            with self.subTest(calls=calls):
                self.assertEqual(apart(answers(flat(taken))), good)
        self.assertGreater(refused_in_all, 300)

    def test_calls_that_only_ask_change_nothing(self):
        numbers = Numbers(6)
        for line in range(40):
            calls = strewn_line(numbers, line % 13)
            found = apart(answers(flat(calls)))
            telling = [call for call in calls if call[0] <= 2]
            expected = [answer for call, answer in zip(calls, found) if call[0] <= 2]
            with self.subTest(calls=calls):
                self.assertEqual(apart(answers(flat(telling))), expected)

    def test_lines_one_after_another_as_if_each_were_the_first(self):
        numbers = Numbers(13)
        lines = [flat(strewn_line(numbers, line % 13)) for line in range(26)]
        before = [list(line) for line in lines]
        first = [answers(line) for line in lines]
        again = [answers(line) for line in reversed(lines)]
        self.assertEqual(again[::-1], first)
        self.assertEqual(lines, before)


if __name__ == "__main__":
    unittest.main()
