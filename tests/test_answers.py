"""The interface: how calls and answers stand in their lists, and what is left as it was."""

import contextlib
import io
import unittest

from shoelaces.lacings import answers
from tests.helper import LENGTHS, MOST, ask, is_, look, mend, shoe, shortest, tear

EVERY_CALL = (
    shoe(3, LENGTHS[3]) + tear(4) + look([0, 5, 2, 3, 1]) + shortest() + is_([0, 2, 3, 5, 1]) + tear(4) + tear(9)
    + mend(4) + mend(4) + shoe(3, [0]) + look([]) + tear(3) + tear(5) + shortest() + shoe(4, LENGTHS[4]) + shortest()
)


def forbidden(*given, **named):
    raise AssertionError("what is handed in was changed")


class Watched(list):
    """A list that tells of any change, even one that is taken back."""

    __setitem__ = __delitem__ = __iadd__ = __imul__ = forbidden
    append = clear = extend = insert = pop = remove = reverse = sort = forbidden


class HowTheyStand(unittest.TestCase):
    def test_one_call_alone(self):
        self.assertEqual(answers([5]), [6, 4, 1, 0, 2, 3, 1])
        self.assertEqual(answers([0, 2, 3, 2, 3, 1]), [1, 2])
        self.assertEqual(answers([1, 2]), [1, 1])
        self.assertEqual(answers([2, 2]), [1, -9])
        self.assertEqual(answers([3, 4, 0, 2, 3, 1]), [1, 1])
        self.assertEqual(answers([4, 4, 0, 2, 3, 1]), [4, 4, 1, 0, 1])

    def test_empty_rows(self):
        self.assertEqual(answers([3, 0, 4, 0, 0, 2, 0, 5]), [1, 0, 1, -1, 1, -1, 6, 4, 1, 0, 2, 3, 1])

    def test_refused_rows_are_passed_over_whole(self):
        lengths = [5] * 12
        told = answers([0, MOST, 12] + lengths + [4, 12] + lengths + [3, 12] + lengths + [0, 2, 12] + lengths + [1, 3])
        self.assertEqual(told, [1, -1, 1, -1, 1, 0, 1, -1, 1, 1])

    def test_several_calls(self):
        calls = [0, 3, 5, 5, 7, 11, 3, 8, 1, 4, 4, 5, 0, 5, 2, 3, 1, 1, 4, 2, 4, 2, 4]
        self.assertEqual(answers(calls), [1, 20, 1, 4, 4, 26, 3, 1, 0, 1, -4, 1, 20, 1, -9])

    def test_a_lacing_has_as_many_numbers_as_are_not_torn(self):
        told = ask(shoe(4, LENGTHS[4]), shortest(), tear(2), shortest(), tear(7), shortest(), tear(4), shortest())
        self.assertEqual([len(told[place]) for place in (1, 3, 5, 7)], [10, 9, 8, 7])

    def test_numbers_are_ints(self):
        told = answers(list(EVERY_CALL))
        self.assertIs(type(told), list)
        self.assertEqual({type(number) for number in told}, {int})

    def test_forty_calls(self):
        part = [is_([0, 2, 3, 1]), look([0, 3, 2, 1]), shoe(2, [1, 1, 1]), look([0, 3, 2, 1]), shoe(2, [2, 3, 1])]
        told = ask(*(part * 8))
        self.assertEqual(len(told), 40)
        self.assertEqual(told, [[1], [8, 3, 1, 1], [2], [3, 3, 1, 1], [2]] * 8)

    def test_forty_calls_of_each_kind_among_them(self):
        part = [shoe(4, LENGTHS[4]), tear(2), is_([0, 3, 4, 5, 6, 7, 1]), look([0, 3, 4, 5, 6, 7, 1]),
                shoe(5, [1] * 9), look([MOST] * 12), mend(2), shortest(), is_([]), look([])]
        told = ask(*(part * 4))
        self.assertEqual(len(told), 40)
        self.assertEqual(told, ask(*part) * 4)

    def test_forty_of_the_largest_shoes(self):
        self.assertEqual(ask(*[shoe(4, LENGTHS[4])] * 40), [[396]] * 40)


class LeftAsItWas(unittest.TestCase):
    def test_the_list_is_the_same_afterwards(self):
        calls = list(EVERY_CALL)
        answers(calls)
        self.assertEqual(calls, EVERY_CALL)

    def test_the_list_is_not_changed_for_a_while_either(self):
        self.assertEqual(answers(Watched(EVERY_CALL)), answers(list(EVERY_CALL)))

    def test_the_same_list_twice(self):
        calls = list(EVERY_CALL)
        first = answers(calls)
        self.assertEqual(answers(calls), first)

    def test_nothing_is_kept(self):
        new = answers([5, 4, 4, 0, 3, 2, 1])
        for calls in (shoe(4, LENGTHS[4]) + tear(2), tear(3), tear(2) + tear(3), shoe(2, [7, 8, 9])):
            answers(calls)
            self.assertEqual(answers([5, 4, 4, 0, 3, 2, 1]), new)

    def test_what_is_given_back_may_be_changed(self):
        calls = list(EVERY_CALL)
        first = answers(calls)
        copy = list(first)
        first.reverse()
        first.append(99)
        self.assertEqual(answers(calls), copy)

    def test_prints_nothing(self):
        out, err = io.StringIO(), io.StringIO()
        with contextlib.redirect_stdout(out), contextlib.redirect_stderr(err):
            answers(list(EVERY_CALL))
        self.assertEqual((out.getvalue(), err.getvalue()), ("", ""))


if __name__ == "__main__":
    unittest.main()
