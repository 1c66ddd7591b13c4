"""The interface: how calls and answers stand in their lists, and what is left as it was."""

import contextlib
import io
import unittest

from shoelaces.lacings import answers
from tests.helper import (LARGEST, LENGTHS, ask, even, expected_answers, flattest, is_, look, mend, mirror, most, shoe,
                          shortest, tear, which)

EVERY_CALL = (
    shoe(3, LENGTHS[3]) + tear(4) + look([0, 5, 2, 3, 1]) + shortest() + is_([0, 2, 3, 5, 1]) + tear(4) + tear(9)
    + mend(4) + mend(4) + shoe(3, [0]) + look([]) + tear(3) + tear(5) + shortest() + shoe(4, LENGTHS[4]) + shortest()
    + mirror([0, 2, 3, 4, 5, 6, 7, 1]) + mirror([0]) + most(0) + most(120) + which(395)
)

EVERY_BEST = (
    shoe(3, LENGTHS[3]) + tear(2) + even() + tear(3) + even() + flattest() + which(1) + which(2) + tear(4) + tear(5)
    + mirror([0, 1]) + even() + flattest() + most(4) + most(5)
)


def forbidden(*given, **named):
    raise AssertionError("what is handed in was changed")


class Watched(list):
    """A list that tells of any change, even one that is taken back."""

    __setitem__ = __delitem__ = __iadd__ = __imul__ = forbidden
    append = clear = extend = insert = pop = remove = reverse = sort = forbidden


class HowTheyStand(unittest.TestCase):
    def test_one_call_alone(self):
        self.assertEqual(answers([5]), [6, 4, 1, 0, 2, 3, 1])
        self.assertEqual(answers([0, 2, 3, 2, 3, 1]), [1, 2])
        self.assertEqual(answers([1, 2]), [1, 1])
        self.assertEqual(answers([2, 2]), [1, -9])
        self.assertEqual(answers([3, 4, 0, 2, 3, 1]), [1, 1])
        self.assertEqual(answers([4, 4, 0, 2, 3, 1]), [4, 4, 1, 0, 1])
        self.assertEqual(answers([6, 8]), [6, 3, 1, 0, 3, 2, 1])
        self.assertEqual(answers([7]), [6, 0, 1, 0, 2, 3, 1])
        self.assertEqual(answers([8]), [5, 2, 0, 2, 3, 1])
        self.assertEqual(answers([9, 1]), [5, 0, 0, 3, 2, 1])
        self.assertEqual(answers([10, 4, 0, 3, 2, 1]), [5, 0, 0, 3, 2, 1])

    def test_one_refusal_alone(self):
        for calls, refusal in (([0, 2, 0], -1), ([1, 0], -2), ([2, 1], -2), ([2, 3], -9), ([4, 1, 0], -1), ([6, 3], -6),
                               ([9, 2], -3), ([10, 2, 0, 1], -1)):
            self.assertEqual(answers(calls), [1, refusal], calls)
        self.assertEqual(answers([1, 2, 1, 2]), [1, 1, 1, -4])
        no_lacing = [0, 3, 5, 1, 1, 1, 1, 1, 1, 3, 1, 5]
        told = [1, 20, 1, 4, 1, 0]
        for calls, refusal in (([5], -6), ([6, LARGEST], -6), ([7], -6), ([9, 0], -3), ([10, 4, 0, 2, 4, 1], -1)):
            self.assertEqual(answers(no_lacing + calls), told + [1, refusal], calls)

    def test_no_even_lacing_is_told_by_one_number(self):
        self.assertEqual(answers([1, 3, 8, 7]), [1, 1, 1, 0, 5, 0, 1, 0, 2, 1])

    def test_empty_rows(self):
        self.assertEqual(answers([3, 0, 4, 0, 0, 2, 0, 10, 0, 5]), [1, 0, 1, -1, 1, -1, 1, -1, 6, 4, 1, 0, 2, 3, 1])

    def test_refused_rows_are_passed_over_whole(self):
        lengths = [5] * 12
        told = answers([0, LARGEST, 12] + lengths + [4, 12] + lengths + [3, 12] + lengths + [10, 12] + lengths
                       + [0, 2, 12] + lengths + [1, 3])
        self.assertEqual(told, [1, -1, 1, -1, 1, 0, 1, -1, 1, -1, 1, 1])

    def test_several_calls(self):
        calls = [0, 3, 5, 5, 7, 11, 3, 8, 1, 4, 4, 5, 0, 5, 2, 3, 1, 1, 4, 2, 4, 2, 4]
        self.assertEqual(answers(calls), [1, 20, 1, 4, 4, 26, 3, 1, 0, 1, -4, 1, 20, 1, -9])

    def test_a_lacing_has_as_many_numbers_as_are_not_torn(self):
        told = ask(shoe(4, LENGTHS[4]), shortest(), tear(2), shortest(), tear(7), shortest(), tear(4), shortest())
        self.assertEqual([len(told[place]) for place in (1, 3, 5, 7)], [10, 9, 8, 7])
        told = ask(shoe(4, LENGTHS[4]), tear(4), tear(5), most(LARGEST), flattest(), even(), which(0),
                   mirror([0, 2, 3, 6, 7, 1]))
        self.assertEqual([len(answer) for answer in told[3:]], [8, 8, 7, 7, 7])

    def test_numbers_are_ints(self):
        for calls in (EVERY_CALL, EVERY_BEST):
            told = answers(list(calls))
            self.assertIs(type(told), list)
            self.assertEqual({type(number) for number in told}, {int})

    def test_forty_calls(self):
        part = [is_([0, 2, 3, 1]), look([0, 3, 2, 1]), shoe(2, [1, 1, 1]), look([0, 3, 2, 1]), shoe(2, [2, 3, 1])]
        told = ask(*(part * 8))
        self.assertEqual(len(told), 40)
        self.assertEqual(told, [[1], [8, 3, 1, 1], [2], [3, 3, 1, 1], [2]] * 8)

    def test_forty_calls_of_each_kind_among_them(self):
        part = [shoe(4, LENGTHS[4]), tear(2), is_([0, 3, 4, 5, 6, 7, 1]), look([0, 3, 4, 5, 6, 7, 1]),
                shoe(5, [1] * 9), look([LARGEST] * 12), mend(2), shortest(), is_([]), look([])]
        told = ask(*(part * 4))
        self.assertEqual(len(told), 40)
        self.assertEqual(told, ask(*part) * 4)

    def test_forty_calls_with_all_eleven_among_them(self):
        lacing, without_2, without_2_and_7 = [0, 7, 2, 3, 5, 4, 6, 1], [0, 3, 4, 5, 6, 7, 1], [0, 3, 4, 6, 5, 1]
        calls = [
            shoe(4, LENGTHS[4]), is_(lacing), look(lacing), mirror(lacing), shortest(), most(120), flattest(), even(),
            which(395), tear(2), is_(lacing), look(lacing), mirror(lacing), is_(without_2), look(without_2),
            mirror(without_2), even(), most(LARGEST), shoe(4, [0] * 7), shoe(5, LENGTHS[4]), mirror([]), is_([]),
            look([]), tear(7), is_(without_2), look(without_2_and_7), mirror(without_2_and_7), which(20), mend(2),
            mirror(without_2_and_7), is_(lacing[:1] + lacing[2:]), look(lacing), shoe(4, [1] * 7), look(lacing),
            mirror(lacing), is_(lacing), flattest(), look([LARGEST] * 12), mirror([LARGEST] * 12), is_([LARGEST] * 12),
        ]
        self.assertEqual(len(calls), 40)
        self.assertEqual({call[0] for call in calls}, set(range(11)))
        told = ask(*calls)
        self.assertEqual(told, expected_answers(calls))
        self.assertEqual(told[3:9], [
            [0, 0, 7, 5, 4, 2, 3, 6, 1], [75, 1, 0, 2, 5, 7, 6, 4, 3, 1], [7, 1, 0, 3, 4, 7, 6, 5, 2, 1],
            [0, 14, 0, 2, 3, 4, 5, 6, 7, 1], [30, 0, 2, 5, 6, 7, 4, 3, 1], [0, 0, 7, 6, 5, 4, 3, 2, 1],
        ])
        self.assertEqual(told[9:13], [[60], [0], [-1], [-1]])

    def test_forty_of_the_largest_shoes(self):
        self.assertEqual(ask(*[shoe(4, LENGTHS[4])] * 40), [[396]] * 40)


class LeftAsItWas(unittest.TestCase):
    def test_the_list_is_the_same_afterwards(self):
        for wanted in (EVERY_CALL, EVERY_BEST):
            calls = list(wanted)
            answers(calls)
            self.assertEqual(calls, wanted)

    def test_the_list_is_not_changed_for_a_while_either(self):
        for calls in (EVERY_CALL, EVERY_BEST):
            self.assertEqual(answers(Watched(calls)), answers(list(calls)))

    def test_the_same_list_twice(self):
        for wanted in (EVERY_CALL, EVERY_BEST):
            calls = list(wanted)
            first = answers(calls)
            self.assertEqual(answers(calls), first)

    def test_nothing_is_kept(self):
        asked = [5, 4, 4, 0, 3, 2, 1, 6, 7, 7, 8, 9, 1, 10, 4, 0, 3, 2, 1]
        new = answers(asked)
        for calls in (shoe(4, LENGTHS[4]) + tear(2), tear(3), tear(2) + tear(3), shoe(2, [7, 8, 9])):
            answers(calls)
            self.assertEqual(answers(asked), new)

    def test_what_is_given_back_may_be_changed(self):
        for wanted in (EVERY_CALL, EVERY_BEST):
            calls = list(wanted)
            first = answers(calls)
            copy = list(first)
            first.reverse()
            first.append(99)
            self.assertEqual(answers(calls), copy)

    def test_prints_nothing(self):
        out, err = io.StringIO(), io.StringIO()
        with contextlib.redirect_stdout(out), contextlib.redirect_stderr(err):
            answers(list(EVERY_CALL))
            answers(list(EVERY_BEST))
        self.assertEqual((out.getvalue(), err.getvalue()), ("", ""))


if __name__ == "__main__":
    unittest.main()
