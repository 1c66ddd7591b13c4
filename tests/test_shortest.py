"""What shortest tells, and of point 4 what it says of shortest."""

import random
import unittest

from tests.helper import LENGTHS, ask, expected_shortest, look, mend, shoe, shortest, tear, torn_sets


class Shortest(unittest.TestCase):
    def test_by_hand(self):
        self.assertEqual(ask(shortest()), [[4, 1, 0, 2, 3, 1]])
        # Across is cheaper than along: 0 3 2 1 takes 2 + 9 + 2.
        self.assertEqual(ask(shoe(2, [9, 2, 5]), shortest())[1], [13, 1, 0, 3, 2, 1])

    def test_of_several_the_first_is_told(self):
        self.assertEqual(ask(shoe(2, [1, 1, 1]), shortest())[1], [3, 2, 0, 2, 3, 1])
        self.assertEqual(ask(shoe(3, [1] * 5), shortest())[1], [5, 20, 0, 2, 3, 4, 5, 1])
        self.assertEqual(ask(shoe(4, [1000] * 7), shortest())[1], [7000, 396, 0, 2, 3, 4, 5, 6, 7, 1])

    def test_the_first_shortest_need_not_be_the_first_lacing(self):
        told = ask(shoe(3, [2, 1, 1, 9, 9]), shortest())[1]
        self.assertEqual(told, expected_shortest(3, [2, 1, 1, 9, 9], ()))
        self.assertNotEqual(told[2:], [0, 2, 3, 4, 5, 1])
        self.assertGreater(told[1], 1)

    def test_every_torn_set(self):
        for n in (2, 3, 4):
            for lengths in (LENGTHS[n], [1] * (2 * n - 1), LENGTHS[n][::-1]):
                for torn in torn_sets(n):
                    told = ask(shoe(n, lengths), *[tear(eyelet) for eyelet in torn], shortest())
                    self.assertEqual(told[-1], expected_shortest(n, lengths, torn), (n, lengths, torn))

    def test_many_lengths(self):
        # A fixed seed: the same shoes each time. Few different lengths, so that many lacings are equally long.
        chance = random.Random(7)
        for trial in range(60):
            n = chance.choice((2, 3, 4))
            lengths = [chance.randint(1, 4) for place in range(2 * n - 1)]
            torn = chance.sample(range(2, 2 * n), chance.randint(0, 2))
            told = ask(shoe(n, lengths), *[tear(eyelet) for eyelet in torn], shortest())
            self.assertEqual(told[-1], expected_shortest(n, lengths, torn), (n, lengths, torn))

    def test_what_is_told_looks_as_long(self):
        told = ask(shoe(4, LENGTHS[4]), tear(5), shortest())[-1]
        seen = ask(shoe(4, LENGTHS[4]), tear(5), look(told[2:]))[-1]
        self.assertEqual(seen[0], told[0])

    def test_all_torn(self):
        self.assertEqual(ask(tear(2), tear(3), shortest())[-1], [2, 1, 0, 1])


class ShortestRefused(unittest.TestCase):
    def test_no_lacing(self):
        told = ask(shoe(3, LENGTHS[3]), tear(3), tear(5), shortest())
        self.assertEqual(told[2:], [[0], [-6]])
        told = ask(shoe(4, LENGTHS[4]), tear(2), tear(4), tear(6), shortest())
        self.assertEqual(told[3:], [[0], [-6]])

    def test_one_lacing(self):
        told = ask(tear(2), shortest())
        self.assertEqual(told, [[1], [4, 1, 0, 3, 1]])

    def test_all_is_as_it_was_behind_a_refusal(self):
        told = ask(shoe(3, LENGTHS[3]), tear(2), tear(4), shortest(), shortest(), tear(4), mend(3), mend(4), shortest())
        self.assertEqual(told[3:8], [[-6], [-6], [-4], [-9], [4]])
        self.assertEqual(told[8], expected_shortest(3, LENGTHS[3], (2,)))


if __name__ == "__main__":
    unittest.main()
