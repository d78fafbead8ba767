"""What the tests share: the calls as lists, and a slow second writing of the document to compare with."""

from yesnotables.tables import answers

LARGEST = 4294967295
LARGEST_IN_ROW = 65535

NO_SUCH = [-2]
NOT_BEGUN = [-11]
NOT_AS_TOLD = [-22]
TOO_MANY = [-28]


def with_length(row):
    return [len(row)] + list(row)


def begin(n):
    return [0, n]


def table(row):
    return [1] + with_length(row)


def cell(k, i, j):
    return [2, k, i, j]


def drop(k):
    return [3, k]


def turn():
    return [4]


def show(k):
    return [5, k]


def word(row):
    return [6] + with_length(row)


def goes(s, row):
    return [7, s] + with_length(row)


def same(first, second):
    return [8] + with_length(first) + with_length(second)


def count():
    return [9]


def nth(i):
    return [10, i]


# One of each call that has no answer of its own yet: come, nothing, full, met, sets, lead, round, still,
# commute, back, state.
LATER_CALLS = [[11, 1, 0], [12], [13], [14], [15, 0], [16, 0, 0], [17, 0], [18], [19, 0, 0], [20], [21]]


def joined(calls):
    return [number for call in calls for number in call]


def split(given):
    """The flat list that `answers` gives back, cut into one list a call."""
    parts = []
    at = 0
    while at < len(given):
        parts.append(given[at + 1:at + 1 + given[at]])
        at += 1 + given[at]
    return parts


def told(*calls):
    """What is answered to the calls, one list a call."""
    return split(answers(joined(calls)))


def last_told(*calls):
    return told(*calls)[-1]


def look_around():
    """Calls that together show all of an object that can be seen."""
    looks = [show(k) for k in range(4)] + [word([]), goes(1, []), goes(3, []), goes(7, []), count()]
    return looks + [nth(i) for i in range(12)] + [word([0, 1, 2]), same([0], [1])]


class Numbers:
    """Numbers that look like thrown ones and are the same at every run."""

    def __init__(self, seed):
        self.state = seed

    def below(self, limit):
        self.state = (self.state * 6364136223846793005 + 1442695040888963407) % 2 ** 64
        return (self.state >> 33) % limit


class Model:
    """The document written a second time, with tables as sets of pairs (from, to) and without haste."""

    def __init__(self):
        self.n = None
        self.tables = []

    def pairs(self, sets):
        return frozenset((i, j) for i in range(self.n) for j in range(self.n) if sets[i] // 2 ** j % 2 == 1)

    def sets(self, pairs):
        return [sum(2 ** j for j in range(self.n) if (i, j) in pairs) for i in range(self.n)]

    def product(self, first, second):
        return frozenset((i, j) for (i, m) in first for (p, j) in second if m == p)

    def comes(self, row):
        """Walks each place along the row by itself."""
        ways = set()
        for start in range(self.n):
            here = {start}
            for k in row:
                here = {j for (i, j) in self.tables[k] if i in here}
            ways |= {(start, end) for end in here}
        return frozenset(ways)

    def no_tables(self, row):
        return any(k >= len(self.tables) for k in row)

    def no_set(self, s):
        return s >= 2 ** self.n

    def all_rows(self):
        """For each table that can come its row, found from the row's beginning on.

        layers[m] holds what comes of the rows of just m tables; a row's first number is the least one behind
        which something of the next shorter layer still leads to the table.
        """
        layers = [{self.comes([])}]
        lengths = {}
        while True:
            layer = {self.product(t, rest) for t in self.tables for rest in layers[-1]}
            fresh = [t for t in layer if t not in lengths]
            if not fresh:
                break
            lengths.update((t, len(layers)) for t in fresh)
            layers.append(layer)
        behind = [{rest: self.product(t, rest) for layer in layers for rest in layer} for t in self.tables]
        rows = [(length, self.first_row(goal, length, layers, behind)) for goal, length in lengths.items()]
        return [row for length, row in sorted(rows)]

    def first_row(self, goal, length, layers, behind):
        row = []
        goals = {goal}
        for shorter in range(length - 1, -1, -1):
            for k in range(len(self.tables)):
                rests = {rest for rest in layers[shorter] if behind[k][rest] in goals}
                if rests:
                    row.append(k)
                    goals = rests
                    break
        return row

    def answer(self, call, *handed):
        if call != "begin" and self.n is None:
            return NOT_BEGUN
        return getattr(self, "answer_" + call)(*handed)

    def answer_begin(self, n):
        if n not in (1, 2, 3):
            return NOT_AS_TOLD
        self.n = n
        self.tables = []
        return [0]

    def answer_table(self, row):
        if len(row) != self.n or any(self.no_set(s) for s in row):
            return NOT_AS_TOLD
        if len(self.tables) == 3:
            return TOO_MANY
        self.tables.append(self.pairs(row))
        return [len(self.tables) - 1]

    def answer_cell(self, k, i, j):
        if k >= len(self.tables) or i >= self.n or j >= self.n:
            return NO_SUCH
        self.tables[k] = self.tables[k] ^ {(i, j)}
        return [self.sets(self.tables[k])[i]]

    def answer_drop(self, k):
        if k >= len(self.tables):
            return NO_SUCH
        self.tables.pop(k)
        return [len(self.tables)]

    def answer_turn(self):
        self.tables = [frozenset((j, i) for (i, j) in pairs) for pairs in self.tables]
        return [len(self.tables)]

    def answer_show(self, k):
        if k >= len(self.tables):
            return NO_SUCH
        return [self.n] + self.sets(self.tables[k])

    def answer_word(self, row):
        if self.no_tables(row):
            return NO_SUCH
        return [self.n] + self.sets(self.comes(row))

    def answer_goes(self, s, row):
        if self.no_tables(row):
            return NO_SUCH
        if self.no_set(s):
            return NOT_AS_TOLD
        ends = {j for (i, j) in self.comes(row) if s // 2 ** i % 2 == 1}
        return [sum(2 ** j for j in ends)]

    def answer_same(self, first, second):
        if self.no_tables(first) or self.no_tables(second):
            return NO_SUCH
        return [int(self.comes(first) == self.comes(second))]

    def answer_count(self):
        return [len(self.all_rows())]

    def answer_nth(self, i):
        rows = self.all_rows()
        if i >= len(rows):
            return NO_SUCH
        return [len(rows[i])] + rows[i] + self.sets(self.comes(rows[i]))
