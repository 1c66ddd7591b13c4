"""What even tells."""

import unittest

from tests.helper import LENGTHS, ask, even, expected_even, look, mend, mirror, shoe, tear, torn_sets, torn_shoe


class Even(unittest.TestCase):
    def test_by_hand(self):
        # Read from its end with each eyelet as the one beside it, 0 2 3 1 is 0 2 3 1, and 0 3 2 1 is 0 3 2 1.
        self.assertEqual(ask(even()), [[2, 0, 2, 3, 1]])

    def test_by_hand_on_three_and_four_rows(self):
        told = ask(shoe(3, LENGTHS[3]), even(), shoe(4, LENGTHS[4]), even())
        self.assertEqual(told, [[20], [6, 0, 2, 5, 4, 3, 1], [396], [30, 0, 2, 5, 6, 7, 4, 3, 1]])

    def test_every_torn_set(self):
        for n in (2, 3, 4):
            for torn in torn_sets(n):
                told = ask(*torn_shoe(n, LENGTHS[n], torn), even())
                self.assertEqual(told[-1], expected_even(n, torn), (n, torn))

    def test_a_row_torn_whole(self):
        told = ask(shoe(4, LENGTHS[4]), tear(4), tear(5), even(), tear(2), tear(3), even())
        self.assertEqual([told[3], told[6]], [[6, 0, 2, 7, 6, 3, 1], [2, 0, 6, 7, 1]])

    def test_lacings_of_which_none_is_even(self):
        told = ask(tear(3), even(), mend(3), even())
        self.assertEqual(told, [[1], [0], [2], [2, 0, 2, 3, 1]])
        self.assertEqual(ask(shoe(4, LENGTHS[4]), tear(6), even())[1:], [[60], [0]])
        self.assertEqual(ask(shoe(3, LENGTHS[3]), tear(2), tear(5), even())[2:], [[2], [0]])

    def test_no_lacing(self):
        for n, torn in ((3, (3, 5)), (3, (2, 4)), (4, (2, 4, 6)), (4, (3, 4, 5, 7))):
            told = ask(*torn_shoe(n, LENGTHS[n], torn), even())
            self.assertEqual(told[-2:], [[0], [0]])

    def test_only_0_and_1_are_not_torn(self):
        self.assertEqual(ask(tear(2), tear(3), even())[-1], [1, 0, 1])

    def test_what_is_told_looks_so(self):
        told = ask(shoe(4, LENGTHS[4]), even())[-1][1:]
        seen = ask(shoe(4, LENGTHS[4]), look(told), mirror(told))
        self.assertEqual([seen[1][3], seen[2]], [1, [0] + told])


if __name__ == "__main__":
    unittest.main()
