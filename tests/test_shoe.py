"""Point 1, and what shoe changes."""

import unittest

from tests.helper import LARGEST, LENGTHS, ask, every_lacing, is_, look, mend, shoe, shortest, tear


class ShoeCounts(unittest.TestCase):
    def test_two_three_and_four_rows(self):
        self.assertEqual(ask(shoe(2, LENGTHS[2])), [[2]])
        self.assertEqual(ask(shoe(3, LENGTHS[3])), [[20]])
        self.assertEqual(ask(shoe(4, LENGTHS[4])), [[396]])

    def test_counts_are_those_of_all_lacings(self):
        for n in (2, 3, 4):
            self.assertEqual(ask(shoe(n, LENGTHS[n])), [[len(every_lacing(n, ()))]])

    def test_lengths_do_not_change_the_count(self):
        self.assertEqual(ask(shoe(3, [1] * 5), shoe(3, [1000] * 5)), [[20], [20]])

    def test_shoe_mends_all(self):
        told = ask(shoe(3, LENGTHS[3]), tear(3), tear(5), shoe(3, LENGTHS[3]), mend(3), tear(3))
        self.assertEqual(told, [[20], [4], [0], [20], [-9], [4]])

    def test_shoe_mends_all_when_the_rows_differ(self):
        told = ask(tear(2), tear(3), shoe(3, LENGTHS[3]), mend(2), mend(3), shoe(2, LENGTHS[2]), tear(4))
        self.assertEqual(told, [[1], [1], [20], [-9], [-9], [2], [-2]])

    def test_lengths_are_taken_over(self):
        row = [0, 2, 3, 1]
        told = ask(look(row), shoe(2, [10, 20, 40]), look(row), look([0, 3, 2, 1]))
        self.assertEqual(told, [[4, 1, 0, 1], [2], [90, 1, 0, 1], [50, 3, 1, 1]])


class NewShoe(unittest.TestCase):
    def test_lacings_at_the_beginning(self):
        told = ask(is_([0, 2, 3, 1]), is_([0, 3, 2, 1]), is_([0, 1]), is_([0, 2, 4, 5, 3, 1]))
        self.assertEqual(told, [[1], [1], [0], [0]])

    def test_lengths_at_the_beginning(self):
        # Along 1, across 2 and along 1; then across 3, 2 and 3.
        self.assertEqual(ask(look([0, 2, 3, 1]), look([0, 3, 2, 1])), [[4, 1, 0, 1], [8, 3, 1, 1]])

    def test_eyelets_at_the_beginning(self):
        self.assertEqual(ask(mend(2), mend(3), mend(4), tear(4)), [[-9], [-9], [-2], [-2]])
        self.assertEqual(ask(tear(3)), [[1]])

    def test_shortest_at_the_beginning(self):
        self.assertEqual(ask(shortest()), [[4, 1, 0, 2, 3, 1]])


class ShoeRefused(unittest.TestCase):
    def assert_refused(self, n, lengths):
        before = [shoe(3, LENGTHS[3]), tear(2)]
        behind = [shortest(), mend(2), look([0, 2, 3, 4, 5, 1])]
        with_refusal = ask(*before, shoe(n, lengths), *behind)
        self.assertEqual(with_refusal.pop(2), [-1], (n, lengths))
        self.assertEqual(with_refusal, ask(*before, *behind), (n, lengths))

    def test_wrong_rows(self):
        for n in (0, 1, 5, 6, LARGEST):
            for size in (0, 1, 3, 5, 7, 9, 11, 12):
                self.assert_refused(n, [1] * size)

    def test_wrong_number_of_lengths(self):
        for n in (2, 3, 4):
            for size in range(13):
                if size != 2 * n - 1:
                    self.assert_refused(n, [1] * size)

    def test_wrong_length_at_each_place(self):
        for n in (2, 3, 4):
            for place in range(2 * n - 1):
                for wrong in (0, 1001, LARGEST):
                    lengths = list(LENGTHS[n])
                    lengths[place] = wrong
                    self.assert_refused(n, lengths)

    def test_least_and_greatest_length_at_each_place(self):
        for n, count in ((2, 2), (3, 20), (4, 396)):
            for place in range(2 * n - 1):
                for right in (1, 1000):
                    lengths = list(LENGTHS[n])
                    lengths[place] = right
                    self.assertEqual(ask(shoe(n, lengths)), [[count]])

    def test_refused_as_the_first_call(self):
        told = ask(shoe(5, [1] * 9), look([0, 2, 3, 1]), shoe(3, [1, 1, 1, 1, 0]), shortest())
        self.assertEqual(told, [[-1], [4, 1, 0, 1], [-1], [4, 1, 0, 2, 3, 1]])


if __name__ == "__main__":
    unittest.main()
