"""What a lacing is, as the call is tells it."""

import unittest

from tests.helper import LARGEST, LENGTHS, all_held, ask, every_lacing, every_row, is_, mend, shoe, tear, torn_sets


def is_lacing(n, torn, row):
    """Whether is says so on a shoe with these eyelets torn."""
    told = ask(shoe(n, LENGTHS[n]), *[tear(eyelet) for eyelet in torn], is_(row))
    return told[-1] == [1]


class Is(unittest.TestCase):
    def assert_answers(self, n, torn, rows, wanted):
        """Asks of many rows, some on one shoe at a time."""
        before = [shoe(n, LENGTHS[n])] + [tear(eyelet) for eyelet in torn]
        for start in range(0, len(rows), 30):
            part = rows[start:start + 30]
            told = ask(*before, *[is_(row) for row in part])[len(before):]
            self.assertEqual(told, [[answer] for answer in wanted[start:start + 30]], (n, torn, part))

    def test_every_row_of_every_torn_set(self):
        for n in (2, 3, 4):
            for torn in torn_sets(n):
                rows = every_row(n, torn)
                self.assert_answers(n, torn, rows, [int(all_held(row)) for row in rows])

    def test_one_changed_number(self):
        for n, torn in ((2, ()), (3, ()), (3, (4,)), (4, ()), (4, (3, 6))):
            lacing = every_lacing(n, torn)[-1]
            changed = []
            for place, eyelet in enumerate(lacing):
                for other in [*range(2 * n + 2), LARGEST]:
                    if other != eyelet:
                        changed.append(lacing[:place] + [other] + lacing[place + 1:])
            self.assert_answers(n, torn, [lacing] + changed, [1] + [0] * len(changed))

    def test_one_left_out_or_put_in(self):
        for n, torn in ((2, ()), (3, ()), (3, (4,)), (4, ()), (4, (3, 6))):
            lacing = every_lacing(n, torn)[0]
            changed = [lacing[:place] + lacing[place + 1:] for place in range(len(lacing))]
            for place in range(len(lacing) + 1):
                for other in (0, 1, 2, 3, 6, 2 * n, LARGEST):
                    changed.append(lacing[:place] + [other] + lacing[place:])
            self.assert_answers(n, torn, changed, [0] * len(changed))

    def test_empty_and_longest_rows(self):
        self.assertEqual(ask(is_([]), is_([0]), is_([1]), is_([0] * 12), is_([LARGEST] * 12)), [[0]] * 5)

    def test_nothing_between_beginning_and_end(self):
        self.assertFalse(is_lacing(2, (), [0, 1]))
        self.assertTrue(is_lacing(2, (2, 3), [0, 1]))
        self.assertFalse(is_lacing(2, (2, 3), [1, 0]))
        self.assertFalse(is_lacing(2, (2, 3), []))

    def test_an_eyelet_twice(self):
        self.assertEqual(ask(is_([0, 2, 2, 1]), is_([0, 2, 3, 2, 1]), is_([0, 2, 3, 1, 1])), [[0]] * 3)

    def test_a_torn_eyelet(self):
        row = [0, 2, 3, 1]
        self.assertEqual(ask(is_(row), tear(2), is_(row), is_([0, 3, 1]), mend(2), is_(row)),
                         [[1], [1], [0], [1], [2], [1]])

    def test_wrong_beginning_and_end(self):
        self.assertEqual(ask(is_([1, 2, 3, 0]), is_([2, 0, 3, 1]), is_([0, 2, 1, 3]), is_([1, 3, 2, 0])), [[0]] * 4)

    def test_one_that_is_not_held(self):
        rows = [[0, 2, 4, 3, 5, 1], [0, 4, 2, 5, 3, 1], [0, 3, 5, 1, 2, 4], [0, 2, 3, 5, 4, 1]]
        self.assertEqual(ask(shoe(3, LENGTHS[3]), *[is_(row) for row in rows])[1:], [[0], [0], [0], [1]])

    def test_held_from_ahead_or_from_behind_is_enough(self):
        # 2 is held by 5 behind it alone, 3 by 4 ahead of it alone.
        self.assertTrue(is_lacing(3, (), [0, 2, 5, 4, 3, 1]))

    def test_first_and_last_need_not_be_held(self):
        # 0 and 2 are on one side, 3 and 1 on the other.
        self.assertTrue(is_lacing(2, (), [0, 2, 3, 1]))


if __name__ == "__main__":
    unittest.main()
