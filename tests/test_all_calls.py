"""All eleven calls on one shoe in one list: what each finds behind the others."""

import random
import unittest

from tests.helper import (LARGEST, LENGTHS, LIMITED, ask, even, every_lacing, every_row, expected_answers, flattest,
                          is_, look, mend, mirror, most, shoe, shortest, tear, torn_shoe, which)

# The seed is fixed: the same lists each time.
SEED = 2024


class Chooser:
    """Chooses calls by chance, right ones and wrong ones, such as the interface lets be handed in."""

    def __init__(self, seed):
        self.chance = random.Random(seed)

    def calls(self):
        chosen = self.chance.choice(([], [self.shoe()], [self.shoe()], [self.shoe()], self.one_sided()))
        size = self.chance.randint(1, 40)
        while len(chosen) < size and sum(map(len, chosen)) < 600 - 15:
            call = self.one()
            if call[0] not in LIMITED or len([other for other in chosen if other[0] in LIMITED]) < 12:
                chosen.append(call)
        return chosen

    def one(self):
        pick = self.chance.randrange(14)
        if pick == 0:
            return self.shoe()
        if pick in (1, 2):
            return tear(self.eyelet())
        if pick == 3:
            return mend(self.eyelet())
        if pick in (4, 5, 6):
            return is_(self.row())
        if pick == 7:
            return look(self.row())
        if pick == 8:
            return shortest()
        if pick == 9:
            return most(self.chance.choice((0, 20, 30, 80, 110, 150, 4000, LARGEST)))
        if pick == 10:
            return flattest()
        if pick == 11:
            return even()
        if pick == 12:
            return which(self.chance.choice((0, 1, 3, 19, 20, 59, 60, 395, 396, LARGEST)))
        return mirror(self.row())

    def shoe(self):
        n = self.chance.choice((2, 3, 3, 4, 4, 4))
        lengths = [self.chance.choice((1, 2, 5, 9, 1000)) for place in range(2 * n - 1)]
        if self.chance.random() < 0.2:
            lengths[self.chance.randrange(len(lengths))] = self.chance.choice((0, 1001, LARGEST))
        if self.chance.random() < 0.1:
            n = self.chance.choice((0, 1, 2, 3, 4, 5, 6, LARGEST))
        return shoe(n, lengths)

    def one_sided(self):
        """A shoe that has no lacing: chance alone would seldom come to one."""
        n = self.chance.choice((3, 4))
        return torn_shoe(n, LENGTHS[n], range(self.chance.choice((2, 3)), 2 * n, 2))

    def eyelet(self):
        return self.chance.choice((0, 1, 2, 3, 4, 5, 6, 7, 7, 6, 5, 4, 8, LARGEST))

    def row(self):
        n = self.chance.choice((2, 3, 4))
        torn = self.chance.sample(range(2, 2 * n), self.chance.choice((0, 0, 1, 2)))
        row = self.chance.choice(every_lacing(n, torn) or every_row(n, torn))
        if self.chance.random() < 0.3:
            return self.chance.sample(row, len(row))
        if self.chance.random() < 0.2:
            return [self.eyelet() for place in range(self.chance.randrange(13))]
        return row


class Mixed(unittest.TestCase):
    def test_lists_by_chance(self):
        chooser = Chooser(SEED)
        met = {}
        for trial in range(250):
            calls = chooser.calls()
            told = ask(*calls)
            self.assertEqual(told, expected_answers(calls), calls)
            for call, answer in zip(calls, told):
                kind = answer[0] if answer[0] < 0 else "answered"
                met[call[0], kind] = True
        # Chance must have come to every answer and every refusal.
        refusals = [(0, -1), (1, -2), (1, -4), (2, -2), (2, -9), (4, -1), (5, -6), (6, -6), (7, -6), (9, -3), (10, -1)]
        self.assertEqual(set(met), {*refusals, *[(number, "answered") for number in range(11)]})

    def test_shoe_tear_and_mend_are_seen_by_the_calls_behind(self):
        for n, torn in ((2, 3), (3, 4), (4, 5)):
            whole_row, torn_row = every_lacing(n, ())[-1], every_lacing(n, (torn,))[-1]
            asked = [most(LARGEST), flattest(), even(), which(3), look(whole_row), look(torn_row), mirror(whole_row),
                     mirror(torn_row), is_(whole_row), is_(torn_row)]
            calls = [shoe(n, LENGTHS[n]), *asked, tear(torn), *asked, mend(torn), *asked[4:]]
            told = ask(*calls)
            self.assertEqual(told, expected_answers(calls))
            self.assertNotEqual(told[1:5], told[12:16])
            self.assertEqual(told[5:11], told[-6:])

    def test_a_new_shoe_has_none_torn(self):
        told = ask(tear(2), even(), shoe(2, [2, 3, 1]), most(8), flattest(), even(), which(1), mirror([0, 3, 2, 1]))
        self.assertEqual(told, [[1], [0], [2], [3, 1, 0, 3, 2, 1], [0, 1, 0, 2, 3, 1], [2, 0, 2, 3, 1], [0, 0, 3, 2, 1],
                                [0, 0, 3, 2, 1]])

    def test_new_lengths_are_seen(self):
        # Of the second shoe 0 3 2 1 takes 1 + 2 + 1, and 0 2 3 1 takes 5 + 2 + 5.
        told = ask(most(4), shoe(2, [2, 1, 5]), most(3), most(4), shoe(2, [1, 1, 1]), most(2), most(3))
        self.assertEqual(told, [[1, 1, 0, 2, 3, 1], [2], [-6], [3, 1, 0, 3, 2, 1], [2], [-6], [3, 1, 0, 3, 2, 1]])


class ChangeNothing(unittest.TestCase):
    def test_the_calls_behind_find_all_as_it_was(self):
        for n, torn in ((2, ()), (2, (2, 3)), (3, ()), (3, (4,)), (3, (3, 5)), (4, ()), (4, (2, 7)), (4, (2, 4, 6))):
            before = torn_shoe(n, LENGTHS[n], torn)
            row = every_row(n, torn)[0]
            behind = [shortest(), most(LARGEST), flattest(), even(), which(0), mirror(row), look(row), is_(row),
                      tear(2)]
            wanted = ask(*before, *behind)
            for call in (most(LARGEST), most(0), flattest(), even(), which(0), which(LARGEST), mirror(row), mirror([])):
                told = ask(*before, call, call, *behind)
                self.assertEqual(told[:len(before)] + told[len(before) + 2:], wanted, (n, torn, call))


class NoError(unittest.TestCase):
    def test_every_call_on_every_smallest_and_largest_number(self):
        for number in (0, 1, 2, 3, 4, 1000, 1001, LARGEST):
            rows = [[number] * size for size in range(13)]
            calls = [tear(number), mend(number), most(number), which(number), shortest(), flattest(), even()]
            for row in rows:
                for call in (shoe(number, row), is_(row), look(row), mirror(row)):
                    listed = [call, *calls]
                    self.assertEqual(ask(*listed), expected_answers(listed), listed)


if __name__ == "__main__":
    unittest.main()
