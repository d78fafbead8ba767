"""What the tests share: the calls as lists, and a slow second writing of the document to compare with."""

import unittest

from yesnotables.tables import answers

LARGEST = 4294967295
LARGEST_IN_ROW = 65535

NO_SUCH = [-2]
NO_CHANGE = [-6]
NOT_BEGUN = [-11]
NOT_AS_TOLD = [-22]
TOO_MANY = [-28]
THERE_IS_NONE = [-33]


def with_length(row):
    return [len(row)] + list(row)


def begin(n):
    return [0, n]


def table(row):
    return [1] + with_length(row)


def cell(k, i, j):
    return [2, k, i, j]


def drop(k):
    return [3, k]


def turn():
    return [4]


def show(k):
    return [5, k]


def word(row):
    return [6] + with_length(row)


def goes(s, row):
    return [7, s] + with_length(row)


def same(first, second):
    return [8] + with_length(first) + with_length(second)


def count():
    return [9]


def nth(i):
    return [10, i]


def come(row):
    return [11] + with_length(row)


def nothing():
    return [12]


def full():
    return [13]


def met():
    return [14]


def sets(s):
    return [15, s]


def lead(s, u):
    return [16, s, u]


def round_of(k):
    return [17, k]


def still():
    return [18]


def commute(k, j):
    return [19, k, j]


def back():
    return [20]


def state():
    return [21]


def joined(calls):
    return [number for call in calls for number in call]


def split(given):
    """The flat list that `answers` gives back, cut into one list a call."""
    parts = []
    at = 0
    while at < len(given):
        parts.append(given[at + 1:at + 1 + given[at]])
        at += 1 + given[at]
    return parts


def told(*calls):
    """What is answered to the calls, one list a call."""
    assert 1 <= len(calls) <= 256, "no such list is handed in"
    return split(answers(joined(calls)))


def last_told(*calls):
    return told(*calls)[-1]


def look_at_tables():
    """Calls that together show all that hangs on the places and tables."""
    looks = [show(k) for k in range(4)] + [word([]), goes(1, []), goes(3, []), goes(7, []), count()]
    looks += [nth(i) for i in range(12)] + [word([0, 1, 2]), same([0], [1])]
    looks += [come([1]), come([1, 2]), come([1, 2, 4]), nothing(), full(), met(), still()]
    looks += [sets(s) for s in range(9)] + [lead(s, u) for s in (1, 2, 7) for u in (0, 3, 7)]
    return looks + [round_of(k) for k in range(4)] + [commute(0, 1), commute(1, 2), commute(2, 0)]


def look_around():
    """Calls that together show all of an object that can be seen without taking a change back."""
    return look_at_tables() + [state()]


def look_behind():
    """Takes back one change more than can be, and shows what is there behind each."""
    return [state()] + [back(), show(0), show(1), show(2), state()] * 11


def all_told(made):
    """Each (row, sets) that nth tells on these tables, up to the count."""
    n = made[0][1]
    size = last_told(*made, count())[0]
    found = []
    for first in range(0, size, 200):
        for answered in told(*made, *[nth(i) for i in range(first, min(size, first + 200))])[len(made):]:
            found.append((answered[1:1 + answered[0]], answered[1 + answered[0]:]))
            assert len(answered) == 1 + answered[0] + n
    return found


class UnchangedTest(unittest.TestCase):
    def check_nothing_changed(self, made, call):
        """All that can be seen behind the call is as ahead of it, what can be taken back too."""
        looks = look_around()
        answered = told(*made, *looks, call, *looks)[len(made):]
        self.assertEqual(answered[len(looks) + 1:], answered[:len(looks)])
        # Without a look ahead of it, too: nothing may hang on what was looked for.
        self.assertEqual(told(*made, call, *looks)[len(made) + 1:], answered[:len(looks)])
        behind = look_behind()
        self.assertEqual(told(*made, call, *behind)[len(made) + 1:], told(*made, *behind)[len(made):])

    def check_refused(self, made, call, refusal):
        self.assertEqual(last_told(*made, call), refusal)
        self.check_nothing_changed(made, call)


class Numbers:
    """Numbers that look like thrown ones and are the same at every run."""

    def __init__(self, seed):
        self.state = seed

    def below(self, limit):
        self.state = (self.state * 6364136223846793005 + 1442695040888963407) % 2 ** 64
        return (self.state >> 33) % limit


class Model:
    """The document written a second time, with tables as sets of pairs (from, to) and without haste."""

    def __init__(self):
        self.n = None
        self.tables = []
        self.old = []
        self.can_go_back = 0

    def pairs(self, sets):
        return frozenset((i, j) for i in range(self.n) for j in range(self.n) if sets[i] // 2 ** j % 2 == 1)

    def sets(self, pairs):
        return [sum(2 ** j for j in range(self.n) if (i, j) in pairs) for i in range(self.n)]

    def product(self, first, second):
        return frozenset((i, j) for (i, m) in first for (p, j) in second if m == p)

    def comes(self, row):
        """Walks each place along the row by itself."""
        ways = set()
        for start in range(self.n):
            here = {start}
            for k in row:
                here = {j for (i, j) in self.tables[k] if i in here}
            ways |= {(start, end) for end in here}
        return frozenset(ways)

    def change(self, tables):
        self.old.append(self.tables)
        self.tables = tables
        self.can_go_back = min(self.can_go_back + 1, 10)

    def no_tables(self, row):
        return any(k >= len(self.tables) for k in row)

    def no_set(self, s):
        return s >= 2 ** self.n

    def all_rows(self):
        """For each table that can come its row, found from the row's beginning on.

        layers[m] holds what comes of the rows of just m tables; a row's first number is the least one behind
        which something of the next shorter layer still leads to the table.
        """
        layers = [{self.comes([])}]
        lengths = {}
        while True:
            layer = {self.product(t, rest) for t in self.tables for rest in layers[-1]}
            fresh = [t for t in layer if t not in lengths]
            if not fresh:
                break
            lengths.update((t, len(layers)) for t in fresh)
            layers.append(layer)
        behind = [{rest: self.product(t, rest) for layer in layers for rest in layer} for t in self.tables]
        rows = [(length, self.first_row(goal, length, layers, behind)) for goal, length in lengths.items()]
        return [row for length, row in sorted(rows)]

    def first_row(self, goal, length, layers, behind):
        row = []
        goals = {goal}
        for shorter in range(length - 1, -1, -1):
            for k in range(len(self.tables)):
                rests = {rest for rest in layers[shorter] if behind[k][rest] in goals}
                if rests:
                    row.append(k)
                    goals = rests
                    break
        return row

    def answer(self, call, *handed):
        if call != "begin" and self.n is None:
            return NOT_BEGUN
        return getattr(self, "answer_" + call)(*handed)

    def answer_begin(self, n):
        if n not in (1, 2, 3):
            return NOT_AS_TOLD
        self.n = n
        self.tables = []
        self.old = []
        self.can_go_back = 0
        return [0]

    def answer_table(self, row):
        if len(row) != self.n or any(self.no_set(s) for s in row):
            return NOT_AS_TOLD
        if len(self.tables) == 3:
            return TOO_MANY
        self.change(self.tables + [self.pairs(row)])
        return [len(self.tables) - 1]

    def answer_cell(self, k, i, j):
        if k >= len(self.tables) or i >= self.n or j >= self.n:
            return NO_SUCH
        self.change([pairs ^ {(i, j)} if m == k else pairs for m, pairs in enumerate(self.tables)])
        return [self.sets(self.tables[k])[i]]

    def answer_drop(self, k):
        if k >= len(self.tables):
            return NO_SUCH
        self.change([pairs for m, pairs in enumerate(self.tables) if m != k])
        return [len(self.tables)]

    def answer_turn(self):
        self.change([frozenset((j, i) for (i, j) in pairs) for pairs in self.tables])
        return [len(self.tables)]

    def answer_show(self, k):
        if k >= len(self.tables):
            return NO_SUCH
        return [self.n] + self.sets(self.tables[k])

    def answer_word(self, row):
        if self.no_tables(row):
            return NO_SUCH
        return [self.n] + self.sets(self.comes(row))

    def answer_goes(self, s, row):
        if self.no_tables(row):
            return NO_SUCH
        if self.no_set(s):
            return NOT_AS_TOLD
        ends = {j for (i, j) in self.comes(row) if s // 2 ** i % 2 == 1}
        return [sum(2 ** j for j in ends)]

    def answer_same(self, first, second):
        if self.no_tables(first) or self.no_tables(second):
            return NO_SUCH
        return [int(self.comes(first) == self.comes(second))]

    def answer_count(self):
        return [len(self.all_rows())]

    def answer_nth(self, i):
        rows = self.all_rows()
        if i >= len(rows):
            return NO_SUCH
        return self.with_sets(rows[i])

    def with_sets(self, row):
        return [len(row)] + row + self.sets(self.comes(row))

    def first_row_that(self, fits):
        for row in self.all_rows():
            if fits(self.comes(row)):
                return self.with_sets(row)
        return THERE_IS_NONE

    def answer_come(self, row):
        if len(row) != self.n or any(self.no_set(s) for s in row):
            return NOT_AS_TOLD
        return self.first_row_that(lambda pairs: pairs == self.pairs(row))

    def answer_nothing(self):
        return self.first_row_that(lambda pairs: not pairs)

    def answer_full(self):
        return self.first_row_that(lambda pairs: len(pairs) == self.n ** 2)

    def answer_met(self):
        every = range(self.n)
        return self.first_row_that(lambda pairs: any(all((i, j) in pairs for i in every) for j in every))

    def answer_still(self):
        return [sum(self.comes(row + row) == self.comes(row) for row in self.all_rows())]

    def led(self, s, k):
        """Where the set s leads by table k, place by place."""
        ends = {j for (i, j) in self.tables[k] if s // 2 ** i % 2 == 1}
        return sum(2 ** j for j in ends)

    def answer_sets(self, s):
        if self.no_set(s):
            return NOT_AS_TOLD
        reached = {s}
        while True:
            more = reached | {self.led(t, k) for t in reached for k in range(len(self.tables))}
            if more == reached:
                return [len(reached)] + sorted(reached)
            reached = more

    def steps_to(self, u):
        """How many tables the shortest row has from each set to u, found from u backwards."""
        steps = {u: 0}
        for length in range(1, 2 ** self.n):
            for t in range(2 ** self.n):
                if t not in steps and any(steps.get(self.led(t, k)) == length - 1 for k in range(len(self.tables))):
                    steps[t] = length
        return steps

    def answer_lead(self, s, u):
        if self.no_set(s) or self.no_set(u):
            return NOT_AS_TOLD
        steps = self.steps_to(u)
        if s not in steps:
            return THERE_IS_NONE
        row = []
        while s != u:
            row.append(min(k for k in range(len(self.tables)) if steps.get(self.led(s, k)) == steps[s] - 1))
            s = self.led(s, row[-1])
        return [len(row)] + row

    def answer_round(self, k):
        if k >= len(self.tables):
            return NO_SUCH
        powers = [self.comes([k] * exponent) for exponent in range(40)]
        for power in range(1, 20):
            for steps in range(1, 20):
                if powers[power] == powers[power + steps]:
                    return [power, steps]

    def answer_commute(self, k, j):
        if max(k, j) >= len(self.tables):
            return NO_SUCH
        return [int(self.product(self.tables[k], self.tables[j]) == self.product(self.tables[j], self.tables[k]))]

    def answer_back(self):
        if self.can_go_back == 0:
            return NO_CHANGE
        self.can_go_back -= 1
        self.tables = self.old.pop()
        return [self.can_go_back]

    def answer_state(self):
        return [self.n, len(self.tables), self.can_go_back]
