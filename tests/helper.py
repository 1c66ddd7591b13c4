"""What the tests share: writing calls, reading answers, and a slow, literal reading of DOC.md."""

from itertools import combinations, permutations

from shoelaces.lacings import answers

MOST = 4294967295

# Lengths that tell every distance on each kind of shoe apart.
LENGTHS = {
    2: [2, 3, 1],
    3: [5, 7, 11, 3, 8],
    4: [13, 17, 29, 41, 7, 19, 37],
}


def shoe(n, lengths):
    return [0, n, len(lengths)] + list(lengths)


def tear(eyelet):
    return [1, eyelet]


def mend(eyelet):
    return [2, eyelet]


def is_(row):
    return [3, len(row)] + list(row)


def look(row):
    return [4, len(row)] + list(row)


def shortest():
    return [5]


def ask(*calls):
    """The answers of these calls on a new shoe, a list for each."""
    flat = [number for call in calls for number in call]
    limited = [call for call in calls if call[0] in (1, 2, 5, 6, 7, 8, 9)]
    assert 1 <= len(calls) <= 40 and len(flat) <= 600 and len(limited) <= 12, "DOC.md rules such a list out"
    given = answers(flat)
    split = []
    place = 0
    while place < len(given):
        size = given[place]
        split.append(given[place + 1:place + 1 + size])
        place += 1 + size
    assert place == len(given) and len(split) == len(calls), given
    return split


def torn_sets(n):
    """All sets of eyelets that may be torn at once."""
    tearable = range(2, 2 * n)
    return [torn for size in range(2 * n - 1) for torn in combinations(tearable, size)]


def every_row(n, torn):
    """All rows of the eyelets that aren't torn, from 0 to 1, held or not, in order."""
    between = [eyelet for eyelet in range(2, 2 * n) if eyelet not in torn]
    return [[0, *row, 1] for row in permutations(between)]


def on_left(eyelet):
    return eyelet % 2 == 0


def all_held(row):
    for ahead, eyelet, behind in zip(row, row[1:], row[2:]):
        if on_left(ahead) == on_left(eyelet) == on_left(behind):
            return False
    return True


def every_lacing(n, torn):
    return [row for row in every_row(n, torn) if all_held(row)]


def expected_look(n, lengths, row):
    long, pulled = 0, 0
    across = []
    for a, b in zip(row, row[1:]):
        apart = abs(a // 2 - b // 2)
        if on_left(a) == on_left(b):
            long += lengths[n + apart - 1]
        else:
            long += lengths[apart]
            pulled += 1
            across.append((a // 2, b // 2) if on_left(a) else (b // 2, a // 2))
    crossing = [1 for p, q in combinations(across, 2) if (p[0] - q[0]) * (p[1] - q[1]) < 0]
    mirrored = [eyelet + 1 if on_left(eyelet) else eyelet - 1 for eyelet in row[::-1]]
    return [long, pulled, len(crossing), int(mirrored == row)]


def expected_shortest(n, lengths, torn):
    lacings = every_lacing(n, torn)
    if not lacings:
        return [-6]
    measured = [expected_look(n, lengths, row)[0] for row in lacings]
    least = min(measured)
    return [least, measured.count(least), *min(r for r, m in zip(lacings, measured) if m == least)]
