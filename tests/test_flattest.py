"""What flattest tells, and of point 4 what it says of flattest."""

import unittest

from tests.helper import (LENGTHS, ask, even, expected_flattest, flattest, look, mend, most, shoe, shortest, tear,
                          torn_sets, torn_shoe)


class Flattest(unittest.TestCase):
    def test_by_hand(self):
        # In 0 2 3 1 one piece leads across; in 0 3 2 1 the pieces 0-3 and 2-1 cross.
        self.assertEqual(ask(flattest()), [[0, 1, 0, 2, 3, 1]])

    def test_of_several_the_first_is_told(self):
        told = ask(shoe(3, LENGTHS[3]), flattest(), shoe(4, LENGTHS[4]), flattest())
        self.assertEqual(told[1], [0, 4, 0, 2, 3, 4, 5, 1])
        self.assertEqual(told[3], [0, 14, 0, 2, 3, 4, 5, 6, 7, 1])

    def test_the_first_flattest_need_not_be_the_first_lacing(self):
        told = ask(shoe(4, LENGTHS[4]), tear(3), tear(5), flattest(), mend(3), tear(7), flattest())
        self.assertEqual(told[3], [0, 2, 0, 4, 7, 6, 2, 1])
        self.assertEqual(told[6], expected_flattest(4, LENGTHS[4], (5, 7)))
        self.assertEqual(ask(shoe(3, LENGTHS[3]), tear(5), flattest())[2], [0, 1, 0, 4, 3, 2, 1])

    def test_every_torn_set(self):
        for n in (2, 3, 4):
            for torn in torn_sets(n):
                told = ask(*torn_shoe(n, LENGTHS[n], torn), flattest())
                self.assertEqual(told[-1], expected_flattest(n, LENGTHS[n], torn), (n, torn))

    def test_lengths_do_not_matter(self):
        for lengths in ([1] * 7, [1000] * 7, LENGTHS[4][::-1]):
            told = ask(shoe(4, LENGTHS[4]), tear(7), flattest(), shoe(4, lengths), tear(7), flattest())
            self.assertEqual(told[2], told[5])

    def test_what_is_told_looks_so(self):
        told = ask(shoe(4, LENGTHS[4]), tear(7), flattest())[-1]
        seen = ask(shoe(4, LENGTHS[4]), tear(7), look(told[2:]))[-1]
        self.assertEqual(seen[2], told[0])

    def test_only_0_and_1_are_not_torn(self):
        self.assertEqual(ask(tear(2), tear(3), flattest())[-1], [0, 1, 0, 1])


class FlattestRefused(unittest.TestCase):
    def test_no_lacing(self):
        for n, torn in ((3, (3, 5)), (3, (2, 4)), (4, (2, 4, 6)), (4, (3, 4, 5, 7))):
            told = ask(*torn_shoe(n, LENGTHS[n], torn), flattest())
            self.assertEqual(told[-2:], [[0], [-6]])

    def test_all_is_as_it_was_behind_a_refusal(self):
        before = [shoe(3, LENGTHS[3]), tear(2), tear(4)]
        behind = [even(), most(99), tear(4), mend(3), mend(4), shortest(), flattest()]
        told = ask(*before, flattest(), flattest(), *behind)
        self.assertEqual([told.pop(3), told.pop(3)], [[-6], [-6]])
        self.assertEqual(told, ask(*before, *behind))


if __name__ == "__main__":
    unittest.main()
