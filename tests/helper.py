"""What the tests share: writing calls, reading answers, and a slow, literal reading of DOC.md."""

from itertools import combinations, permutations

from shoelaces.lacings import answers

LARGEST = 4294967295

# Lengths that tell every distance on each kind of shoe apart.
LENGTHS = {
    2: [2, 3, 1],
    3: [5, 7, 11, 3, 8],
    4: [13, 17, 29, 41, 7, 19, 37],
}


def shoe(n, lengths):
    return [0, n, len(lengths)] + list(lengths)


def tear(eyelet):
    return [1, eyelet]


def mend(eyelet):
    return [2, eyelet]


def is_(row):
    return [3, len(row)] + list(row)


def look(row):
    return [4, len(row)] + list(row)


def shortest():
    return [5]


def most(length):
    return [6, length]


def flattest():
    return [7]


def even():
    return [8]


def which(k):
    return [9, k]


def mirror(row):
    return [10, len(row)] + list(row)


def torn_shoe(n, lengths, torn):
    """The calls that make a shoe with these eyelets torn."""
    return [shoe(n, lengths)] + [tear(eyelet) for eyelet in torn]


# The calls of which DOC.md lets a list have 12 together.
LIMITED = (1, 2, 5, 6, 7, 8, 9)


def ask(*calls):
    """The answers of these calls on a new shoe, a list for each."""
    flat = [number for call in calls for number in call]
    limited = [call for call in calls if call[0] in LIMITED]
    assert 1 <= len(calls) <= 40 and len(flat) <= 600 and len(limited) <= 12, "DOC.md rules such a list out"
    given = answers(flat)
    split = []
    place = 0
    while place < len(given):
        size = given[place]
        split.append(given[place + 1:place + 1 + size])
        place += 1 + size
    assert place == len(given) and len(split) == len(calls), given
    return split


def torn_sets(n):
    """All sets of eyelets that may be torn at once."""
    tearable = range(2, 2 * n)
    return [torn for size in range(2 * n - 1) for torn in combinations(tearable, size)]


def every_row(n, torn):
    """All rows of the eyelets that aren't torn, from 0 to 1, held or not, in order."""
    between = [eyelet for eyelet in range(2, 2 * n) if eyelet not in torn]
    return [[0, *row, 1] for row in permutations(between)]


def on_left(eyelet):
    return eyelet % 2 == 0


def all_held(row):
    for ahead, eyelet, behind in zip(row, row[1:], row[2:]):
        if on_left(ahead) == on_left(eyelet) == on_left(behind):
            return False
    return True


def every_lacing(n, torn):
    return [row for row in every_row(n, torn) if all_held(row)]


def expected_look(n, lengths, row):
    long, pulled = 0, 0
    across = []
    for a, b in zip(row, row[1:]):
        apart = abs(a // 2 - b // 2)
        if on_left(a) == on_left(b):
            long += lengths[n + apart - 1]
        else:
            long += lengths[apart]
            pulled += 1
            across.append((a // 2, b // 2) if on_left(a) else (b // 2, a // 2))
    crossing = [1 for p, q in combinations(across, 2) if (p[0] - q[0]) * (p[1] - q[1]) < 0]
    return [long, pulled, len(crossing), int(mirrored(row) == row)]


def mirrored(row):
    return [eyelet + 1 if on_left(eyelet) else eyelet - 1 for eyelet in row[::-1]]


def seen_lacings(n, lengths, torn):
    """All lacings, each behind what look tells of it."""
    return [(*expected_look(n, lengths, row), row) for row in every_lacing(n, torn)]


def best_of(marked, better):
    """The best mark, how many rows have it, and the first of these; -6 if there's no row."""
    if not marked:
        return [-6]
    best = better(mark for mark, row in marked)
    rows = [row for mark, row in marked if mark == best]
    return [best, len(rows), *min(rows)]


def expected_shortest(n, lengths, torn):
    return best_of([(long, row) for long, pulled, crossing, same, row in seen_lacings(n, lengths, torn)], min)


def expected_most(n, lengths, torn, length):
    seen = seen_lacings(n, lengths, torn)
    return best_of([(pulled, row) for long, pulled, crossing, same, row in seen if long <= length], max)


def expected_flattest(n, lengths, torn):
    return best_of([(crossing, row) for long, pulled, crossing, same, row in seen_lacings(n, lengths, torn)], min)


def expected_even(n, torn):
    rows = [row for row in every_lacing(n, torn) if mirrored(row) == row]
    return [len(rows), *min(rows, default=[])]


def expected_which(n, torn, k):
    lacings = sorted(every_lacing(n, torn))
    return [0, *lacings[k]] if k < len(lacings) else [-3]


def expected_mirror(n, torn, row):
    return [0, *mirrored(row)] if row in every_lacing(n, torn) else [-1]


class SlowShoe:
    """Answers all eleven calls by the readings above."""

    def __init__(self):
        self.n, self.lengths, self.torn = 2, [2, 3, 1], ()

    def answer(self, call):
        number, given = call[0], call[1:]
        if number == 0:
            return self.change(self.refused_shoe(given), given[0], given[2:], ())
        if number == 1:
            return self.change(self.refused_eyelet(given[0], False), self.n, self.lengths, {*self.torn, given[0]})
        if number == 2:
            return self.change(self.refused_eyelet(given[0], True), self.n, self.lengths, {*self.torn} - {given[0]})
        if number in (3, 4):
            held = given[1:] in every_lacing(self.n, self.torn)
            if number == 3:
                return [int(held)]
            return expected_look(self.n, self.lengths, given[1:]) if held else [-1]
        if number == 5:
            return expected_shortest(self.n, self.lengths, self.torn)
        if number == 6:
            return expected_most(self.n, self.lengths, self.torn, given[0])
        if number == 7:
            return expected_flattest(self.n, self.lengths, self.torn)
        if number == 8:
            return expected_even(self.n, self.torn)
        if number == 9:
            return expected_which(self.n, self.torn, given[0])
        return expected_mirror(self.n, self.torn, given[1:])

    def refused_shoe(self, given):
        n, lengths = given[0], given[2:]
        if n in (2, 3, 4) and len(lengths) == 2 * n - 1 and all(length in range(1, 1001) for length in lengths):
            return 0
        return -1

    def refused_eyelet(self, eyelet, wanted_torn):
        if eyelet not in range(2, 2 * self.n):
            return -2
        if (eyelet in self.torn) == wanted_torn:
            return 0
        return -9 if wanted_torn else -4

    def change(self, refusal, n, lengths, torn):
        if refusal:
            return [refusal]
        self.n, self.lengths, self.torn = n, lengths, tuple(sorted(torn))
        return [len(every_lacing(n, self.torn))]


def expected_answers(calls):
    slow = SlowShoe()
    return [slow.answer(call) for call in calls]
