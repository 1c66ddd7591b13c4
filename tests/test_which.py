"""What which tells, and of point 4 what it says of which."""

import unittest

from tests.helper import (LARGEST, LENGTHS, ask, even, every_lacing, is_, mend, shoe, shortest, tear, torn_sets,
                          torn_shoe, which)


class Which(unittest.TestCase):
    def assert_which(self, n, torn, places, wanted):
        """Asks for some places at a time, as many as one list may have."""
        before = torn_shoe(n, LENGTHS[n], torn)
        at_once = 12 - len(torn)
        for start in range(0, len(places), at_once):
            part = places[start:start + at_once]
            told = ask(*before, *[which(k) for k in part])[len(before):]
            self.assertEqual(told, wanted[start:start + at_once], (n, torn, part))

    def test_by_hand(self):
        self.assertEqual(ask(which(0), which(1), which(2)), [[0, 0, 2, 3, 1], [0, 0, 3, 2, 1], [-3]])

    def test_every_place_of_every_torn_set(self):
        for n in (2, 3, 4):
            for torn in torn_sets(n):
                lacings = sorted(every_lacing(n, torn))
                wanted = [[0] + row for row in lacings] + [[-3]]
                self.assert_which(n, torn, list(range(len(wanted))), wanted)

    def test_first_and_last(self):
        told = ask(shoe(3, LENGTHS[3]), which(0), which(19), shoe(4, LENGTHS[4]), which(0), which(395))
        self.assertEqual(told[1:3], [[0, 0, 2, 3, 4, 5, 1], [0, 0, 5, 4, 3, 2, 1]])
        self.assertEqual(told[4:], [[0, 0, 2, 3, 4, 5, 6, 7, 1], [0, 0, 7, 6, 5, 4, 3, 2, 1]])

    def test_those_told_are_lacings(self):
        told = ask(shoe(4, LENGTHS[4]), tear(2), *[which(k) for k in range(0, 60, 6)])[2:]
        self.assertEqual(ask(shoe(4, LENGTHS[4]), tear(2), *[is_(row[1:]) for row in told])[2:], [[1]] * 10)

    def test_tear_and_mend_are_seen(self):
        told = ask(which(1), tear(2), which(0), which(1), mend(2), which(1))
        self.assertEqual(told, [[0, 0, 3, 2, 1], [1], [0, 0, 3, 1], [-3], [2], [0, 0, 3, 2, 1]])

    def test_only_0_and_1_are_not_torn(self):
        self.assertEqual(ask(tear(2), tear(3), which(0), which(1))[2:], [[0, 0, 1], [-3]])


class WhichRefused(unittest.TestCase):
    def test_behind_the_last(self):
        for n, torn, count in ((2, (), 2), (3, (), 20), (4, (), 396), (3, (4,), 4), (4, (6,), 60)):
            told = ask(*torn_shoe(n, LENGTHS[n], torn), which(count - 1), which(count), which(count + 1),
                       which(LARGEST))
            self.assertEqual(told[-4][0], 0)
            self.assertEqual(told[-3:], [[-3], [-3], [-3]])

    def test_no_lacing(self):
        for n, torn in ((3, (3, 5)), (3, (2, 4)), (4, (2, 4, 6)), (4, (3, 4, 5, 7))):
            told = ask(*torn_shoe(n, LENGTHS[n], torn), which(0), which(1), which(LARGEST))
            self.assertEqual(told[-4:], [[0], [-3], [-3], [-3]])

    def test_all_is_as_it_was_behind_a_refusal(self):
        before = [shoe(3, LENGTHS[3]), tear(4)]
        behind = [which(3), shortest(), even(), is_([0, 5, 2, 3, 1]), tear(4), mend(4), which(19)]
        told = ask(*before, which(4), *behind)
        self.assertEqual(told.pop(2), [-3])
        self.assertEqual(told, ask(*before, *behind))


if __name__ == "__main__":
    unittest.main()
