"""The lacings of a shoe: how many there are, what each is like, which are the best of them."""

# The calls' numbers in the list that is handed in.
SHOE = 0
TEAR = 1
MEND = 2
IS = 3
LOOK = 4
SHORTEST = 5
MOST = 6
FLATTEST = 7
EVEN = 8
WHICH = 9
MIRROR = 10

# What a call answers alone when it refuses.
NOT_A_SHOE = -1
NOT_A_LACING = -1
NO_SUCH_EYELET = -2
NO_SUCH_PLACE = -3
TORN_ALREADY = -4
NO_LACING = -6
NOT_TORN = -9

# The eyelets where every lacing begins and ends; they are never torn.
BEGINNING = 0
END = 1

NEW_SHOE_ROWS = 2
NEW_SHOE_LENGTHS = (2, 3, 1)


class Reader:
    """Takes numbers and rows, one behind another, from a list that it leaves as it is."""

    def __init__(self, numbers):
        self.numbers = numbers
        self.place = 0

    def has_more(self):
        return self.place < len(self.numbers)

    def take_number(self):
        number = self.numbers[self.place]
        self.place = self.place + 1
        return number

    def take_row(self):
        size = self.take_number()
        row = self.numbers[self.place:self.place + size]
        self.place = self.place + size
        return row


class Shoe:
    """The lengths told of a shoe, its eyelets that aren't torn, and its lacings, in order."""

    def __init__(self, n, lengths):
        self.become(n, lengths)

    def become(self, n, lengths):
        """Be a shoe of n rows with these lengths, none of its eyelets torn."""
        self.eyelet_count = 2 * n
        self.across = lengths[:n]
        # No piece leads along 0 rows: the 0 only lets the rows apart be the index.
        self.along = [0] + lengths[n:]
        self.set_whole(list(range(2 * n)))

    def set_whole(self, eyelets):
        """Have just these eyelets, from the lowest on, not torn."""
        self.whole = eyelets
        self.laced = all_lacings(eyelets)

    def has_tearable(self, eyelet):
        return END < eyelet < self.eyelet_count


def is_across(eyelet, other):
    return eyelet % 2 != other % 2


def is_held(ahead, eyelet, behind):
    return is_across(ahead, eyelet) or is_across(eyelet, behind)


def may_go_on(begun, eyelet):
    """Whether no eyelet of a begun lacing stays unheld when this one comes behind it."""
    # The first need not be held.
    return len(begun) == 1 or is_held(begun[-2], begun[-1], eyelet)


def one_longer(begun_lacings, eyelets):
    """Each begun lacing with each eyelet that may come next; rows that stand in order stay so."""
    longer = []
    for begun in begun_lacings:
        for eyelet in eyelets:
            if eyelet not in begun and may_go_on(begun, eyelet):
                longer.append(begun + [eyelet])
    return longer


def all_lacings(whole):
    """All lacings through these eyelets, in order."""
    between = [eyelet for eyelet in whole if eyelet > END]
    begun_lacings = [[BEGINNING]]
    for place in range(len(between)):
        begun_lacings = one_longer(begun_lacings, between)
    return [begun + [END] for begun in begun_lacings if may_go_on(begun, END)]


def is_lacing(shoe, row):
    if sorted(row) != shoe.whole:
        return False
    if row[0] != BEGINNING or row[-1] != END:
        return False
    return all([is_held(row[k - 1], row[k], row[k + 1]) for k in range(1, len(row) - 1)])


def pieces(lacing):
    return list(zip(lacing, lacing[1:]))


def piece_length(shoe, piece):
    rows_apart = abs(piece[0] // 2 - piece[1] // 2)
    if is_across(piece[0], piece[1]):
        return shoe.across[rows_apart]
    return shoe.along[rows_apart]


def lacing_length(shoe, lacing):
    return sum([piece_length(shoe, piece) for piece in pieces(lacing)])


def left_and_right_row(piece):
    """The row of the left end and that of the right end of a piece that leads across."""
    if piece[0] % 2 == 0:
        return (piece[0] // 2, piece[1] // 2)
    return (piece[1] // 2, piece[0] // 2)


def pieces_across(lacing):
    """The rows that the pieces leading across join, the left one first."""
    return [left_and_right_row(piece) for piece in pieces(lacing) if is_across(piece[0], piece[1])]


def pull_count(lacing):
    return len(pieces_across(lacing))


def crossing_count(lacing):
    joined = pieces_across(lacing)
    crossings = 0
    for one in joined:
        for other in joined:
            # Of two that cross, only one is the higher on the left: so each pair counts once.
            if one[0] < other[0] and one[1] > other[1]:
                crossings = crossings + 1
    return crossings


def eyelet_beside(eyelet):
    # The two eyelets of a row differ in the last bit alone.
    return eyelet ^ 1


def in_mirror(lacing):
    return [eyelet_beside(eyelet) for eyelet in reversed(lacing)]


def is_even(lacing):
    return in_mirror(lacing) == lacing


def is_shoe(n, lengths):
    if n < 2 or n > 4 or len(lengths) != 2 * n - 1:
        return False
    return all([1 <= length <= 1000 for length in lengths])


def answer_shoe(shoe, n, lengths):
    if not is_shoe(n, lengths):
        return [NOT_A_SHOE]
    shoe.become(n, lengths)
    return [len(shoe.laced)]


def answer_tear(shoe, eyelet):
    if not shoe.has_tearable(eyelet):
        return [NO_SUCH_EYELET]
    if eyelet not in shoe.whole:
        return [TORN_ALREADY]
    shoe.set_whole([other for other in shoe.whole if other != eyelet])
    return [len(shoe.laced)]


def answer_mend(shoe, eyelet):
    if not shoe.has_tearable(eyelet):
        return [NO_SUCH_EYELET]
    if eyelet in shoe.whole:
        return [NOT_TORN]
    shoe.set_whole(sorted(shoe.whole + [eyelet]))
    return [len(shoe.laced)]


def answer_is(shoe, row):
    return [1 if is_lacing(shoe, row) else 0]


def answer_look(shoe, row):
    if not is_lacing(shoe, row):
        return [NOT_A_LACING]
    return [lacing_length(shoe, row), pull_count(row), crossing_count(row), 1 if is_even(row) else 0]


def best_and_first(lacings, marks, best):
    """The best mark, how many of the lacings have it, and the first of these."""
    return [best, marks.count(best)] + lacings[marks.index(best)]


def answer_shortest(shoe):
    if len(shoe.laced) == 0:
        return [NO_LACING]
    lengths = [lacing_length(shoe, lacing) for lacing in shoe.laced]
    return best_and_first(shoe.laced, lengths, min(lengths))


def answer_most(shoe, length):
    short = [lacing for lacing in shoe.laced if lacing_length(shoe, lacing) <= length]
    if len(short) == 0:
        return [NO_LACING]
    pulls = [pull_count(lacing) for lacing in short]
    return best_and_first(short, pulls, max(pulls))


def answer_flattest(shoe):
    if len(shoe.laced) == 0:
        return [NO_LACING]
    crossings = [crossing_count(lacing) for lacing in shoe.laced]
    return best_and_first(shoe.laced, crossings, min(crossings))


def answer_even(shoe):
    even = [lacing for lacing in shoe.laced if is_even(lacing)]
    if len(even) == 0:
        return [0]
    return [len(even)] + even[0]


def answer_which(shoe, k):
    if k >= len(shoe.laced):
        return [NO_SUCH_PLACE]
    return [0] + shoe.laced[k]


def answer_mirror(shoe, row):
    if not is_lacing(shoe, row):
        return [NOT_A_LACING]
    return [0] + in_mirror(row)


def answer_call(shoe, reader):
    """Take the next call from the reader and answer it."""
    call = reader.take_number()
    if call == SHOE:
        n = reader.take_number()
        return answer_shoe(shoe, n, reader.take_row())
    if call == TEAR:
        return answer_tear(shoe, reader.take_number())
    if call == MEND:
        return answer_mend(shoe, reader.take_number())
    if call == IS:
        return answer_is(shoe, reader.take_row())
    if call == LOOK:
        return answer_look(shoe, reader.take_row())
    if call == SHORTEST:
        return answer_shortest(shoe)
    if call == MOST:
        return answer_most(shoe, reader.take_number())
    if call == FLATTEST:
        return answer_flattest(shoe)
    if call == EVEN:
        return answer_even(shoe)
    if call == WHICH:
        return answer_which(shoe, reader.take_number())
    if call == MIRROR:
        return answer_mirror(shoe, reader.take_row())
    raise ValueError(f"there is no call {call}")


def answers(calls):
    """What the calls on a new shoe answer: for each how many numbers, then these."""
    shoe = Shoe(NEW_SHOE_ROWS, list(NEW_SHOE_LENGTHS))
    reader = Reader(calls)
    told = []
    while reader.has_more():
        answer = answer_call(shoe, reader)
        told.append(len(answer))
        told.extend(answer)
    return told
