"""What most tells, and of point 4 what it says of most."""

import random
import unittest

from tests.helper import (LARGEST, LENGTHS, ask, even, every_lacing, expected_look, expected_most, flattest, look, mend,
                          most, shoe, shortest, tear, torn_sets, torn_shoe)


def measured(n, lengths, torn):
    return [expected_look(n, lengths, row)[0] for row in every_lacing(n, torn)]


class Most(unittest.TestCase):
    def assert_most(self, n, lengths, torn, asked):
        """Asks with some lengths at a time, as many as one list may have."""
        before = torn_shoe(n, lengths, torn)
        at_once = 12 - len(torn)
        for start in range(0, len(asked), at_once):
            part = asked[start:start + at_once]
            told = ask(*before, *[most(length) for length in part])[len(before):]
            self.assertEqual(told, [expected_most(n, lengths, torn, length) for length in part], (n, torn, part))

    def test_by_hand(self):
        # 0 2 3 1 is 4 long and pulled by 1 piece, 0 3 2 1 is 8 long and pulled by 3.
        told = ask(most(3), most(4), most(5), most(7), most(8), most(9))
        first, second = [1, 1, 0, 2, 3, 1], [3, 1, 0, 3, 2, 1]
        self.assertEqual(told, [[-6], first, first, first, second, second])

    def test_by_hand_on_three_rows(self):
        told = ask(shoe(3, LENGTHS[3]), most(24), most(25), most(30), most(35), most(41))
        self.assertEqual(told[1:], [[-6], [3, 2, 0, 2, 5, 4, 3, 1], [3, 8, 0, 2, 3, 4, 5, 1],
                                    [5, 3, 0, 3, 2, 5, 4, 1], [5, 4, 0, 3, 2, 5, 4, 1]])

    def test_by_hand_on_four_rows(self):
        told = ask(shoe(4, LENGTHS[4]), most(74), most(75), most(120), most(187), tear(2), most(LARGEST))
        self.assertEqual(told[1:5], [[-6], [3, 1, 0, 2, 5, 7, 6, 4, 3, 1], [7, 1, 0, 3, 4, 7, 6, 5, 2, 1],
                                     [7, 36, 0, 3, 2, 5, 4, 7, 6, 1]])
        self.assertEqual(told[6], expected_most(4, LENGTHS[4], (2,), LARGEST))

    def test_edges_of_every_torn_set(self):
        for n in (2, 3, 4):
            for lengths in (LENGTHS[n], [1] * (2 * n - 1), LENGTHS[n][::-1]):
                for torn in torn_sets(n):
                    long = measured(n, lengths, torn) or [50]
                    edges = [0, min(long) - 1, min(long), max(long) - 1, max(long), LARGEST]
                    self.assert_most(n, lengths, torn, edges)

    def test_every_length(self):
        for n, torn in ((2, ()), (3, ()), (3, (4,)), (4, ()), (4, (3, 6))):
            long = measured(n, LENGTHS[n], torn)
            self.assert_most(n, LENGTHS[n], torn, list(range(min(long) - 1, max(long) + 2)))

    def test_many_lengths(self):
        # A fixed seed: the same shoes each time. Few different lengths, so that many lacings are equally long.
        chance = random.Random(11)
        for trial in range(60):
            n = chance.choice((2, 3, 4))
            lengths = [chance.randint(1, 4) for place in range(2 * n - 1)]
            torn = chance.sample(range(2, 2 * n), chance.randint(0, 2))
            self.assert_most(n, lengths, torn, [chance.randint(1, 8 * n) for place in range(4)])

    def test_just_the_shortest(self):
        for n in (2, 3, 4):
            told = ask(shoe(n, LENGTHS[n]), shortest())
            again = ask(shoe(n, LENGTHS[n]), most(told[1][0]), most(told[1][0] - 1))
            self.assertEqual(again[1], expected_most(n, LENGTHS[n], (), told[1][0]))
            self.assertEqual(again[2], [-6])

    def test_just_the_longest(self):
        # Only 0 3 2 1 is pulled by 3, and it is the longest.
        self.assertEqual(ask(most(8), most(7)), [[3, 1, 0, 3, 2, 1], [1, 1, 0, 2, 3, 1]])
        self.assertEqual(ask(shoe(4, [1000] * 7), most(6999), most(7000))[1:],
                         [[-6], [7, 36, 0, 3, 2, 5, 4, 7, 6, 1]])

    def test_what_is_told_looks_so(self):
        told = ask(shoe(4, LENGTHS[4]), tear(5), most(110))[-1]
        seen = ask(shoe(4, LENGTHS[4]), tear(5), look(told[2:]))[-1]
        self.assertEqual(seen[1], told[0])
        self.assertLessEqual(seen[0], 110)

    def test_only_0_and_1_are_not_torn(self):
        told = ask(shoe(2, [9, 3, 1]), tear(2), tear(3), most(0), most(8), most(9), most(LARGEST))
        self.assertEqual(told[3:], [[-6], [-6], [1, 1, 0, 1], [1, 1, 0, 1]])


class MostRefused(unittest.TestCase):
    def test_a_length_of_0(self):
        for n in (2, 3, 4):
            self.assertEqual(ask(shoe(n, [1] * (2 * n - 1)), most(0))[1], [-6])

    def test_no_lacing(self):
        for n, torn in ((3, (3, 5)), (3, (2, 4)), (4, (2, 4, 6)), (4, (3, 4, 5, 7))):
            told = ask(*torn_shoe(n, LENGTHS[n], torn), most(0), most(100), most(LARGEST))
            self.assertEqual(told[-4:], [[0], [-6], [-6], [-6]])

    def test_all_is_as_it_was_behind_a_refusal(self):
        before = [shoe(3, LENGTHS[3]), tear(4)]
        behind = [most(26), shortest(), flattest(), even(), look([0, 5, 2, 3, 1]), tear(4), mend(4)]
        told = ask(*before, most(23), *behind)
        self.assertEqual(told.pop(2), [-6])
        self.assertEqual(told, ask(*before, *behind))


if __name__ == "__main__":
    unittest.main()
