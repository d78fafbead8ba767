"""The calls on one object, handed in and answered as one list of whole numbers."""

from yesnotables.steps import (
    all_meet, all_sets_from, all_that_can_come, is_everything, is_nothing, mirrored, stays_if_doubled, way_round,
    what_comes, where_to, with_cell_changed)

NO_SUCH = -2
NO_CHANGE = -6
NOT_BEGUN = -11
NOT_AS_TOLD = -22
TOO_MANY = -28
THERE_IS_NONE = -33

MOST_PLACES = 3
MOST_TABLES = 3
MOST_TAKEN_BACK = 10

BEGIN = 0

# Of each call, by its number: how many whole numbers, then how many rows are handed in with it.
FORMS = (
    (1, 0),  # begin
    (0, 1),  # table
    (3, 0),  # cell
    (1, 0),  # drop
    (0, 0),  # turn
    (1, 0),  # show
    (0, 1),  # word
    (1, 1),  # goes
    (0, 2),  # same
    (0, 0),  # count
    (1, 0),  # nth
    (0, 1),  # come
    (0, 0),  # nothing
    (0, 0),  # full
    (0, 0),  # met
    (1, 0),  # sets
    (2, 0),  # lead
    (1, 0),  # round
    (0, 0),  # still
    (2, 0),  # commute
    (0, 0),  # back
    (0, 0),  # state
)


# The places and tables of one object; before a begin it has no places.
class Board:
    def __init__(self):
        self.places = 0
        self.tables = ()
        self.earlier = []
        self.coming = None

    def begin(self, places):
        self.places = places
        self.tables = ()
        self.earlier = []
        self.coming = None

    # Every change comes by here, and none writes into the earlier tables: they are kept as they were.
    def change(self, tables):
        self.earlier = (self.earlier + [self.tables])[-MOST_TAKEN_BACK:]
        self.tables = tables
        self.coming = None

    def take_back(self):
        self.tables = self.earlier.pop()
        self.coming = None

    def has_table(self, k):
        return k < len(self.tables)

    def has_tables(self, row):
        return all([self.has_table(k) for k in row])

    def has_place(self, i):
        return i < self.places

    def has_set(self, s):
        return s < (1 << self.places)

    def has_sets(self, row):
        return len(row) == self.places and all([self.has_set(s) for s in row])

    def what_comes_of(self, row):
        return what_comes(self.places, self.tables, row)

    # Sought once for the tables as they are: looking may come often between two changes.
    def all_coming(self):
        if self.coming is None:
            self.coming = all_that_can_come(self.places, self.tables)
        return self.coming


# Keeps its own place in the list of calls, which must stay as it was handed in.
class Reader:
    def __init__(self, calls):
        self.calls = calls
        self.at = 0

    def is_done(self):
        return self.at >= len(self.calls)

    def take_number(self):
        number = self.calls[self.at]
        self.at += 1
        return number

    def take_row(self):
        length = self.take_number()
        row = self.calls[self.at:self.at + length]
        self.at += length
        return row


def answer_begin(board, handed):
    places = handed[0]
    if places < 1 or places > MOST_PLACES:
        return [NOT_AS_TOLD]
    board.begin(places)
    return [0]


def answer_table(board, handed):
    row = handed[0]
    if not board.has_sets(row):
        return [NOT_AS_TOLD]
    number = len(board.tables)
    if number >= MOST_TABLES:
        return [TOO_MANY]
    board.change(board.tables + (tuple(row),))
    return [number]


def answer_cell(board, handed):
    k = handed[0]
    i = handed[1]
    j = handed[2]
    if not board.has_table(k) or not board.has_place(i) or not board.has_place(j):
        return [NO_SUCH]
    changed = with_cell_changed(board.tables[k], i, j)
    board.change(board.tables[:k] + (changed,) + board.tables[k + 1:])
    return [changed[i]]


def answer_drop(board, handed):
    k = handed[0]
    if not board.has_table(k):
        return [NO_SUCH]
    board.change(board.tables[:k] + board.tables[k + 1:])
    return [len(board.tables)]


def answer_turn(board, handed):
    board.change(tuple([mirrored(table) for table in board.tables]))
    return [len(board.tables)]


def answer_show(board, handed):
    k = handed[0]
    if not board.has_table(k):
        return [NO_SUCH]
    return [board.places] + list(board.tables[k])


def answer_word(board, handed):
    row = handed[0]
    if not board.has_tables(row):
        return [NO_SUCH]
    return [board.places] + list(board.what_comes_of(row))


def answer_goes(board, handed):
    s = handed[0]
    row = handed[1]
    if not board.has_tables(row):
        return [NO_SUCH]
    if not board.has_set(s):
        return [NOT_AS_TOLD]
    return [where_to(s, board.what_comes_of(row))]


def answer_same(board, handed):
    first = handed[0]
    second = handed[1]
    if not board.has_tables(first) or not board.has_tables(second):
        return [NO_SUCH]
    return [1 if board.what_comes_of(first) == board.what_comes_of(second) else 0]


def answer_count(board, handed):
    return [len(board.all_coming())]


def answer_nth(board, handed):
    i = handed[0]
    coming = board.all_coming()
    if i >= len(coming):
        return [NO_SUCH]
    return with_its_row(coming[i])


def with_its_row(found):
    row = found[0]
    return [len(row)] + list(row) + list(found[1])


# What is sought stands in the order of the rows, so the first has no longer row than any.
def first_with_its_row(sought):
    if not sought:
        return [THERE_IS_NONE]
    return with_its_row(sought[0])


def answer_come(board, handed):
    row = handed[0]
    if not board.has_sets(row):
        return [NOT_AS_TOLD]
    return first_with_its_row([found for found in board.all_coming() if found[1] == tuple(row)])


def answer_nothing(board, handed):
    return first_with_its_row([found for found in board.all_coming() if is_nothing(found[1])])


def answer_full(board, handed):
    return first_with_its_row([found for found in board.all_coming() if is_everything(found[1])])


def answer_met(board, handed):
    return first_with_its_row([found for found in board.all_coming() if all_meet(found[1])])


def answer_sets(board, handed):
    s = handed[0]
    if not board.has_set(s):
        return [NOT_AS_TOLD]
    reached = [found[1] for found in all_sets_from(s, board.tables)]
    return [len(reached)] + sorted(reached)


def answer_lead(board, handed):
    s = handed[0]
    u = handed[1]
    if not board.has_set(s) or not board.has_set(u):
        return [NOT_AS_TOLD]
    for row, reached in all_sets_from(s, board.tables):
        if reached == u:
            return [len(row)] + list(row)
    return [THERE_IS_NONE]


def answer_round(board, handed):
    k = handed[0]
    if not board.has_table(k):
        return [NO_SUCH]
    return list(way_round(board.tables[k]))


def answer_still(board, handed):
    return [len([found for found in board.all_coming() if stays_if_doubled(found[1])])]


def answer_commute(board, handed):
    k = handed[0]
    j = handed[1]
    return answer_same(board, [[k, j], [j, k]])


def answer_back(board, handed):
    if not board.earlier:
        return [NO_CHANGE]
    board.take_back()
    return [len(board.earlier)]


def answer_state(board, handed):
    return [board.places, len(board.tables), len(board.earlier)]


WORK = {
    0: answer_begin,
    1: answer_table,
    2: answer_cell,
    3: answer_drop,
    4: answer_turn,
    5: answer_show,
    6: answer_word,
    7: answer_goes,
    8: answer_same,
    9: answer_count,
    10: answer_nth,
    11: answer_come,
    12: answer_nothing,
    13: answer_full,
    14: answer_met,
    15: answer_sets,
    16: answer_lead,
    17: answer_round,
    18: answer_still,
    19: answer_commute,
    20: answer_back,
    21: answer_state,
}


# Read for every call, also one that is refused: the next call begins only behind it.
def take_handed(reader, number):
    form = FORMS[number]
    handed = []
    while len(handed) < form[0]:
        handed.append(reader.take_number())
    while len(handed) < form[0] + form[1]:
        handed.append(reader.take_row())
    return handed


def answer_call(board, number, handed):
    if number != BEGIN and board.places == 0:
        return [NOT_BEGUN]
    work = WORK[number]
    return work(board, handed)


def answers(calls):
    board = Board()
    reader = Reader(calls)
    given = []
    while not reader.is_done():
        number = reader.take_number()
        handed = take_handed(reader, number)
        answer = answer_call(board, number, handed)
        given.append(len(answer))
        given.extend(answer)
    return given
