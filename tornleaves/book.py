"""A book whose leaves are torn out and put back, and the sums that its sets of leaves can have."""

LEAVES_AT_FIRST = 10
MOST_LEAVES = 30
# What all pages of a book of so many leaves add up to.
LARGEST_SUM = 1830

OUT_OF_RANGE = -1
NO_SUCH_LEAF = -2
ALREADY_TORN = -4
NOT_THERE = -6

BOOK = 0
TEAR = 1
PUT = 2
SHOWS = 3
SUMS = 4
CAN = 5
FIRST = 6
WAYS = 7
NUMBERS = 8
ALL = 9
PIECES = 10
GAPS = 11

# How many numbers stand behind each call's own number.
NUMBERS_BEHIND = (1, 1, 1, 0, 0, 2, 2, 2, 1, 1, 1, 0, 1)


class Book:
    """How many leaves there are, and which are torn out, in the order in which they went."""

    def __init__(self):
        self.leaves = LEAVES_AT_FIRST
        self.torn = []

    def begin(self, leaves):
        if leaves < 1 or leaves > MOST_LEAVES:
            return [OUT_OF_RANGE]
        self.leaves = leaves
        self.torn = []
        return [2 * leaves]

    def has(self, leaf):
        return leaf >= 1 and leaf <= self.leaves

    def whole(self):
        return list(range(1, self.leaves + 1))

    def left(self):
        return [leaf for leaf in self.whole() if leaf not in self.torn]

    def tear(self, leaf):
        if not self.has(leaf):
            return [NO_SUCH_LEAF]
        if leaf in self.torn:
            return [ALREADY_TORN]
        self.torn.append(leaf)
        return pages_of(leaf)

    def put(self, leaf):
        if not self.has(leaf):
            return [NO_SUCH_LEAF]
        if leaf not in self.torn:
            return [NOT_THERE]
        self.torn.remove(leaf)
        return pages_of(leaf)

    def shows(self):
        return [len(self.torn)] + sorted(self.torn)

    def sums(self):
        return [sum_of_pages(self.torn), sum_of_pages(self.left())]

    def can(self, size, pages):
        if size > self.leaves:
            return [OUT_OF_RANGE]
        if set_exists(self.leaves, size, pages):
            return [1]
        return [0]

    def first(self, size, pages):
        if size > self.leaves:
            return [OUT_OF_RANGE]
        if not set_exists(self.leaves, size, pages):
            return [NOT_THERE]
        return [size] + first_set(self.leaves, size, leaf_total(size, pages))

    def ways(self, size, pages):
        if size > self.leaves:
            return [OUT_OF_RANGE]
        return [set_counts(self.whole())[-1].get((size, pages), 0)]

    def numbers(self, pages):
        if pages > LARGEST_SUM:
            return [OUT_OF_RANGE]
        sizes = [size for size in range(self.leaves + 1) if set_exists(self.leaves, size, pages)]
        return [len(sizes)] + sizes

    def ways_of_any_size(self, pages):
        if pages > LARGEST_SUM:
            return [OUT_OF_RANGE]
        counts = set_counts(self.whole())[-1]
        return [sum([counts.get((size, pages), 0) for size in range(self.leaves + 1)])]

    def pieces(self, pages):
        if pages > LARGEST_SUM:
            return [OUT_OF_RANGE]
        return told_by_ends(pieces_with_sum(self.leaves, pages))

    def gaps(self):
        return told_by_ends(runs_of_pages(sorted(self.torn)))

    def rid(self, pages):
        if pages > LARGEST_SUM:
            return [OUT_OF_RANGE]
        left = self.left()
        lacking = pages - sum_of_pages(self.torn)
        counts = set_counts(left)
        for size in range(len(left) + 1):
            if (size, lacking) in counts[-1]:
                return [size] + first_counted(left, counts, size, lacking)
        return [NOT_THERE]


def pages_of(leaf):
    return [2 * leaf - 1, 2 * leaf]


def sum_of_pages(leaves):
    return sum([sum(pages_of(leaf)) for leaf in leaves])


def leaf_total(size, pages):
    """What the leaves' own numbers add up to, when the pages of so many leaves add up to pages."""
    # The leaf k has the pages' sum 4 k - 1, so each leaf of the set lacks 1 to a multiple of 4.
    return (pages + size) // 4


def set_exists(leaves, size, pages):
    if (pages + size) % 4 != 0:
        return False
    return reachable(1, leaves, size, leaf_total(size, pages))


def reachable(low, high, size, total):
    """Whether some set of so many leaves, from low to high, has numbers that add up to total."""
    # From the lowest such set to the highest one leaf at a time can go up by 1, so no total between is left out.
    # Where there are fewer leaves than asked for, the lowest is above the highest and nothing lies between.
    steps = size * (size - 1) // 2
    return total >= size * low + steps and total <= size * high - steps


def first_set(leaves, size, total):
    """The first set of so many leaves with that total; there must be one."""
    chosen = []
    missing = size
    rest = total
    for leaf in range(1, leaves + 1):
        # A lower leaf at an earlier place makes a set the first, so a leaf is taken whenever the others can follow.
        if missing > 0 and reachable(leaf + 1, leaves, missing - 1, rest - leaf):
            chosen.append(leaf)
            missing = missing - 1
            rest = rest - leaf
    return chosen


def set_counts(leaves):
    """For the last 0, 1, 2 .. of the leaves: how many sets of them there are, by (how many leaves, sum of pages)."""
    told = [{(0, 0): 1}]
    for leaf in reversed(leaves):
        told.append(counts_with(told[-1], leaf))
    return told


def counts_with(counts, leaf):
    """The counts when each set may also have this leaf, which none of them had."""
    grown = dict(counts)
    added = sum_of_pages([leaf])
    for key in counts:
        larger = (key[0] + 1, key[1] + added)
        grown[larger] = grown.get(larger, 0) + counts[key]
    return grown


def first_counted(leaves, counts, size, pages):
    """The first set of so many of these leaves with that sum, by their set_counts; there must be one."""
    chosen = []
    missing = (size, pages)
    for place, leaf in enumerate(leaves):
        behind = counts[len(leaves) - place - 1]
        still_missing = (missing[0] - 1, missing[1] - sum_of_pages([leaf]))
        # As in first_set: a leaf is taken whenever the others can follow.
        if still_missing in behind:
            chosen.append(leaf)
            missing = still_missing
    return chosen


def pieces_with_sum(leaves, pages):
    """The first and the last leaf of each piece that has that sum."""
    found = []
    for low in range(1, leaves + 1):
        reached = 0
        for high in range(low, leaves + 1):
            reached = reached + sum_of_pages([high])
            if reached == pages:
                found.append((low, high))
    return found


def runs_of_pages(leaves):
    """The first and the last page of each run without a break; the leaves come rising."""
    runs = []
    for leaf in leaves:
        pages = pages_of(leaf)
        begin = pages[0]
        if len(runs) > 0 and runs[-1][1] + 1 == begin:
            begin = runs.pop()[0]
        runs.append((begin, pages[1]))
    return runs


def told_by_ends(runs):
    told = [len(runs)]
    for run in runs:
        told.extend([run[0], run[1]])
    return told


def answer(book, call, numbers):
    if call == BOOK:
        return book.begin(numbers[0])
    if call == TEAR:
        return book.tear(numbers[0])
    if call == PUT:
        return book.put(numbers[0])
    if call == SHOWS:
        return book.shows()
    if call == SUMS:
        return book.sums()
    if call == CAN:
        return book.can(numbers[0], numbers[1])
    if call == FIRST:
        return book.first(numbers[0], numbers[1])
    if call == WAYS:
        return book.ways(numbers[0], numbers[1])
    if call == NUMBERS:
        return book.numbers(numbers[0])
    if call == ALL:
        return book.ways_of_any_size(numbers[0])
    if call == PIECES:
        return book.pieces(numbers[0])
    if call == GAPS:
        return book.gaps()
    # NUMBERS_BEHIND ends with rid, so no other call comes this far.
    return book.rid(numbers[0])


def answers(calls):
    """For each of the calls on one new book, in order: how many numbers are answered, then these."""
    book = Book()
    told = []
    place = 0
    while place < len(calls):
        call = calls[place]
        behind = place + 1 + NUMBERS_BEHIND[call]
        answered = answer(book, call, calls[place + 1:behind])
        told.append(len(answered))
        told.extend(answered)
        place = behind
    return told
