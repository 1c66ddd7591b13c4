"""What look tells of a lacing, and of point 3 what it says of look."""

import unittest

from tests.helper import (LARGEST, LENGTHS, all_held, ask, every_lacing, every_row, expected_look, look, mend, shoe,
                          shortest, tear, torn_sets)


class Look(unittest.TestCase):
    def test_by_hand_on_three_rows(self):
        # Across is 5, 7 and 11; along is 3 and 8.
        wanted = (
            ([0, 2, 4, 5, 3, 1], [-1]),
            ([0, 2, 3, 4, 5, 1], [3 + 5 + 7 + 5 + 8, 3, 0, 0]),
            ([0, 3, 4, 5, 2, 1], [7 + 7 + 5 + 7 + 7, 5, 2, 1]),
            ([0, 5, 4, 3, 2, 1], [11 + 5 + 7 + 5 + 7, 5, 3, 0]),
            ([0, 5, 2, 3, 4, 1], [11 + 7 + 5 + 7 + 11, 5, 6, 1]),
        )
        for row, told in wanted:
            self.assertEqual(ask(shoe(3, LENGTHS[3]), look(row))[1], told, row)

    def test_every_lacing_of_every_torn_set(self):
        for n in (2, 3, 4):
            for torn in torn_sets(n):
                before = [shoe(n, LENGTHS[n])] + [tear(eyelet) for eyelet in torn]
                lacings = every_lacing(n, torn)
                for start in range(0, len(lacings), 30):
                    part = lacings[start:start + 30]
                    told = ask(*before, *[look(row) for row in part])[len(before):]
                    self.assertEqual(told, [expected_look(n, LENGTHS[n], row) for row in part], (n, torn))

    def test_all_torn(self):
        told = ask(shoe(2, [9, 3, 1]), tear(2), tear(3), look([0, 1]))
        self.assertEqual(told[-1], [9, 1, 0, 1])

    def test_pieces_that_share_an_end_do_not_cross(self):
        # 0-5 and 5-2 meet on the right; 2-3, 0-5: the left end higher, the right end lower.
        told = ask(shoe(3, LENGTHS[3]), tear(4), look([0, 5, 2, 3, 1]), look([0, 3, 2, 5, 1]))
        self.assertEqual(told[2:], [[11 + 7 + 5 + 3, 3, 1, 0], [7 + 5 + 7 + 8, 3, 0, 0]])

    def test_longest_and_shortest_lengths(self):
        told = ask(shoe(4, [1000] * 7), look([0, 2, 3, 4, 5, 6, 7, 1]), shoe(4, [1] * 7),
                   look([0, 2, 3, 4, 5, 6, 7, 1]))
        self.assertEqual([told[1][0], told[3][0]], [7000, 7])

    def test_a_torn_shoe_may_have_even_lacings(self):
        told = ask(shoe(3, LENGTHS[3]), tear(2), tear(3), look([0, 4, 5, 1]), look([0, 5, 4, 1]))
        self.assertEqual([told[3][3], told[4][3]], [1, 1])

    def test_not_even_when_only_the_other_side_is_torn(self):
        told = ask(tear(3), look([0, 2, 1]))
        self.assertEqual(told[1], [1 + 3, 1, 0, 0])


class LookRefused(unittest.TestCase):
    def test_rows_that_are_no_lacing(self):
        rows = ([], [0], [0, 1], [1, 0], [0, 2, 3], [2, 3, 1], [0, 2, 2, 1], [0, 2, 4, 1], [1, 2, 3, 0],
                [0, 2, 1, 3], [0, 2, 3, 1, 1], [0, 2, LARGEST, 1], [LARGEST] * 12, [0, 2, 3, 1] * 3)
        for row in rows:
            self.assertEqual(ask(look(row)), [[-1]], row)

    def test_every_row_that_is_not_held(self):
        for n in (3, 4):
            unheld = [row for row in every_row(n, ()) if not all_held(row)]
            for start in range(0, len(unheld), 39):
                part = unheld[start:start + 39]
                told = ask(shoe(n, LENGTHS[n]), *[look(row) for row in part])
                self.assertEqual(told[1:], [[-1]] * len(part))

    def test_torn_eyelets(self):
        row = [0, 2, 3, 1]
        told = ask(look(row), tear(3), look(row), look([0, 2, 1]), mend(3), look(row), look([0, 2, 1]))
        self.assertEqual(told, [[4, 1, 0, 1], [1], [-1], [4, 1, 0, 0], [2], [4, 1, 0, 1], [-1]])

    def test_all_is_as_it_was_behind_a_refusal(self):
        before = [shoe(3, LENGTHS[3]), tear(4)]
        behind = [look([0, 5, 2, 3, 1]), shortest(), mend(4)]
        told = ask(*before, look([0, 2, 3, 4, 5, 1]), *behind)
        self.assertEqual(told.pop(2), [-1])
        self.assertEqual(told, ask(*before, *behind))


if __name__ == "__main__":
    unittest.main()
