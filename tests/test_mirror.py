"""What mirror tells, and of point 3 what it says of mirror."""

import unittest

from tests.helper import (LARGEST, LENGTHS, all_held, ask, every_lacing, every_row, is_, mend, mirror, mirrored, shoe,
                          shortest, tear, torn_sets, torn_shoe)


class Mirror(unittest.TestCase):
    def test_by_hand(self):
        self.assertEqual(ask(mirror([0, 2, 3, 1]), mirror([0, 3, 2, 1])), [[0, 0, 2, 3, 1], [0, 0, 3, 2, 1]])
        told = ask(shoe(3, LENGTHS[3]), mirror([0, 2, 3, 4, 5, 1]), mirror([0, 5, 4, 3, 2, 1]))
        self.assertEqual(told[1:], [[0, 0, 4, 5, 2, 3, 1], [0, 0, 3, 2, 5, 4, 1]])

    def test_every_lacing_of_every_torn_set(self):
        for n in (2, 3, 4):
            for torn in torn_sets(n):
                before = torn_shoe(n, LENGTHS[n], torn)
                lacings = every_lacing(n, torn)
                for start in range(0, len(lacings), 30):
                    part = lacings[start:start + 30]
                    told = ask(*before, *[mirror(row) for row in part])[len(before):]
                    self.assertEqual(told, [[0] + mirrored(row) for row in part], (n, torn))

    def test_in_the_mirror_of_a_torn_shoe_the_other_side_is_torn(self):
        told = ask(tear(3), mirror([0, 2, 1]), is_([0, 3, 1]), mirror([0, 3, 1]))
        self.assertEqual(told, [[1], [0, 0, 3, 1], [0], [-1]])
        told = ask(shoe(4, LENGTHS[4]), tear(2), tear(7), mirror([0, 3, 4, 5, 6, 1]))
        self.assertEqual(told[-1], [0, 0, 7, 4, 5, 2, 1])

    def test_twice_in_a_mirror(self):
        for row in every_lacing(4, ())[::13]:
            once = ask(shoe(4, LENGTHS[4]), mirror(row))[1][1:]
            self.assertEqual(ask(shoe(4, LENGTHS[4]), mirror(once))[1], [0] + row)

    def test_only_0_and_1_are_not_torn(self):
        self.assertEqual(ask(tear(2), tear(3), mirror([0, 1]), mirror([1, 0]), mirror([]))[2:], [[0, 0, 1], [-1], [-1]])


class MirrorRefused(unittest.TestCase):
    def test_empty_and_longest_rows(self):
        rows = ([], [0] * 12, [LARGEST] * 12, [0, 2, 3, 1] * 3)
        self.assertEqual(ask(*[mirror(row) for row in rows]), [[-1]] * 4)

    def test_an_eyelet_twice(self):
        rows = ([0, 2, 2, 1], [0, 2, 3, 2, 1], [0, 2, 3, 1, 1], [0, 0, 2, 3, 1])
        self.assertEqual(ask(*[mirror(row) for row in rows]), [[-1]] * 4)

    def test_an_eyelet_that_there_is_not(self):
        rows = ([0, 2, 4, 1], [0, 2, 3, 4, 1], [0, 5, 2, 1], [0, 2, LARGEST, 1])
        self.assertEqual(ask(*[mirror(row) for row in rows]), [[-1]] * 4)

    def test_a_torn_eyelet(self):
        row = [0, 2, 3, 1]
        told = ask(mirror(row), tear(3), mirror(row), mirror([0, 2, 1]), mend(3), mirror(row), mirror([0, 2, 1]))
        self.assertEqual(told, [[0] + row, [1], [-1], [0, 0, 3, 1], [2], [0] + row, [-1]])

    def test_one_left_out(self):
        for n in (2, 3, 4):
            row = every_lacing(n, ())[0]
            for place in range(len(row)):
                told = ask(shoe(n, LENGTHS[n]), mirror(row[:place] + row[place + 1:]))
                self.assertEqual(told[1], [-1], (n, place))

    def test_wrong_beginning_and_end(self):
        rows = ([1, 2, 3, 0], [1, 3, 2, 0], [2, 0, 3, 1], [0, 2, 1, 3], [2, 0, 1, 3])
        self.assertEqual(ask(*[mirror(row) for row in rows]), [[-1]] * 5)

    def test_every_row_that_is_not_held(self):
        for n in (3, 4):
            unheld = [row for row in every_row(n, ()) if not all_held(row)]
            for start in range(0, len(unheld), 39):
                part = unheld[start:start + 39]
                told = ask(shoe(n, LENGTHS[n]), *[mirror(row) for row in part])
                self.assertEqual(told[1:], [[-1]] * len(part))

    def test_no_lacing(self):
        for n, torn in ((3, (3, 5)), (3, (2, 4)), (4, (2, 4, 6)), (4, (3, 4, 5, 7))):
            for row in [[], [0, 1], *every_row(n, torn)]:
                self.assertEqual(ask(*torn_shoe(n, LENGTHS[n], torn), mirror(row))[-1], [-1], (n, torn, row))

    def test_all_is_as_it_was_behind_a_refusal(self):
        before = [shoe(3, LENGTHS[3]), tear(4)]
        behind = [mirror([0, 5, 2, 3, 1]), shortest(), is_([0, 5, 2, 3, 1]), tear(4), mend(4)]
        told = ask(*before, mirror([0, 2, 3, 4, 5, 1]), *behind)
        self.assertEqual(told.pop(2), [-1])
        self.assertEqual(told, ask(*before, *behind))


if __name__ == "__main__":
    unittest.main()
