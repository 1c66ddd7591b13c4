"""Point 2, and what tear and mend change."""

import unittest

from tests.helper import LARGEST, LENGTHS, ask, every_lacing, is_, mend, shoe, shortest, tear, torn_sets


class TearAndMendCount(unittest.TestCase):
    def test_two_rows(self):
        told = ask(tear(2), tear(3), mend(2), mend(3), tear(3))
        self.assertEqual(told, [[1], [1], [1], [2], [1]])

    def test_three_rows_down_to_no_lacing(self):
        told = ask(shoe(3, LENGTHS[3]), tear(2), tear(4), mend(2), mend(4))
        self.assertEqual(told, [[20], [4], [0], [4], [20]])

    def test_tearing_may_bring_lacings_back(self):
        # With 2 and 4 alone on the left none is held; with one of them there's one lacing.
        told = ask(shoe(3, LENGTHS[3]), tear(3), tear(5), tear(2))
        self.assertEqual(told, [[20], [4], [0], [1]])

    def test_all_that_may_be_torn(self):
        for n in (2, 3, 4):
            tears = [tear(eyelet) for eyelet in range(2, 2 * n)]
            told = ask(shoe(n, LENGTHS[n]), *tears, is_([0, 1]))
            self.assertEqual(told[-2:], [[1], [1]])

    def test_every_torn_set(self):
        for n in (2, 3, 4):
            for torn in torn_sets(n):
                told = ask(shoe(n, LENGTHS[n]), *[tear(eyelet) for eyelet in torn])
                wanted = [[len(every_lacing(n, torn[:size]))] for size in range(len(torn) + 1)]
                self.assertEqual(told, wanted, (n, torn))

    def test_every_torn_set_mended_in_another_order(self):
        for n in (3, 4):
            for torn in torn_sets(n):
                tears = [tear(eyelet) for eyelet in torn]
                mends = [mend(eyelet) for eyelet in torn]
                told = ask(shoe(n, LENGTHS[n]), *tears, *mends)[1 + len(tears):]
                wanted = [[len(every_lacing(n, torn[size + 1:]))] for size in range(len(torn))]
                self.assertEqual(told, wanted, (n, torn))

    def test_what_is_mended_stands_in_order_again(self):
        told = ask(shoe(3, [1] * 5), shortest(), tear(2), tear(5), mend(5), mend(2), shortest())
        self.assertEqual(told[1], [5, 20, 0, 2, 3, 4, 5, 1])
        self.assertEqual(told[-1], told[1])


class TearAndMendRefused(unittest.TestCase):
    def test_eyelets_that_may_not_be_torn(self):
        for n in (2, 3, 4):
            for eyelet in (0, 1, 2 * n, 2 * n + 1, LARGEST):
                told = ask(shoe(n, LENGTHS[n]), tear(eyelet), mend(eyelet))
                self.assertEqual(told[1:], [[-2], [-2]], (n, eyelet))

    def test_first_and_last_that_may_be_torn(self):
        for n, count in ((2, 1), (3, 4), (4, 60)):
            for eyelet in (2, 2 * n - 1):
                told = ask(shoe(n, LENGTHS[n]), tear(eyelet), mend(eyelet), mend(eyelet))
                whole = len(every_lacing(n, ()))
                self.assertEqual(told, [[whole], [len(every_lacing(n, (eyelet,)))], [whole], [-9]])
                self.assertEqual(told[1], [count])

    def test_torn_again(self):
        for n in (2, 3, 4):
            for eyelet in range(2, 2 * n):
                told = ask(shoe(n, LENGTHS[n]), tear(eyelet), tear(eyelet), tear(eyelet))
                self.assertEqual(told[2:], [[-4], [-4]], (n, eyelet))

    def test_mended_though_not_torn(self):
        for n in (2, 3, 4):
            for eyelet in range(2, 2 * n):
                told = ask(shoe(n, LENGTHS[n]), mend(eyelet), tear(eyelet), mend(eyelet), mend(eyelet))
                self.assertEqual([told[1], told[4]], [[-9], [-9]], (n, eyelet))

    def test_an_eyelet_of_a_larger_shoe_is_gone(self):
        told = ask(shoe(4, LENGTHS[4]), tear(7), shoe(3, LENGTHS[3]), tear(7), mend(7))
        self.assertEqual(told[2:], [[20], [-2], [-2]])

    def test_all_is_as_it_was_behind_a_refusal(self):
        before = [shoe(4, LENGTHS[4]), tear(2), tear(7)]
        behind = [shortest(), is_([0, 3, 4, 5, 6, 1]), tear(3), mend(2), shortest()]
        for call, number in ((tear(0), -2), (tear(1), -2), (tear(8), -2), (tear(LARGEST), -2), (tear(2), -4),
                             (mend(0), -2), (mend(1), -2), (mend(8), -2), (mend(LARGEST), -2), (mend(3), -9)):
            told = ask(*before, call, *behind)
            self.assertEqual(told.pop(3), [number], call)
            self.assertEqual(told, ask(*before, *behind), call)


if __name__ == "__main__":
    unittest.main()
