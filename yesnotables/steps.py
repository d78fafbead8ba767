"""Tables as tuples of sets of places, and what comes of using them one behind another.

A set is a whole number: place i counts 2 to the power of i.
"""


# A row of no tables leaves everybody at their place.
def without_tables(places):
    return tuple([1 << i for i in range(places)])


# One may stand at any place of the set start, so all that these lead to counts.
def where_to(start, table):
    found = 0
    for i, step in enumerate(table):
        if start & (1 << i):
            found = found | step
    return found


def multiplied(first, second):
    return tuple([where_to(step, second) for step in first])


def where_from(table, j):
    found = 0
    for i, step in enumerate(table):
        if step & (1 << j):
            found = found | (1 << i)
    return found


def mirrored(table):
    return tuple([where_from(table, j) for j in range(len(table))])


# A table of its own comes of it: the one from before may still be kept.
def with_cell_changed(table, i, j):
    return table[:i] + (table[i] ^ (1 << j),) + table[i + 1:]


def what_comes(places, tables, row):
    comes = without_tables(places)
    for k in row:
        comes = multiplied(comes, tables[k])
    return comes


# A list of (row, table) for each table that comes behind start by one table at least, in the order of the rows.
# A table's row without its last number is itself the row of what comes of it: did a row ahead of it
# give the same, that one with the last number behind it would be ahead of the table's row.
# So only the rows that were found last need to be made longer.
def all_that_comes_behind(start, tables):
    found = []
    seen = {}
    # The row of no tables is only a start: its table counts where a row with tables gives it.
    latest = [((), start)]
    while latest:
        longer = []
        for row, comes in latest:
            for k, table in enumerate(tables):
                product = multiplied(comes, table)
                if product not in seen:
                    seen[product] = True
                    longer.append((row + (k,), product))
        found.extend(longer)
        latest = longer
    return found


def all_that_can_come(places, tables):
    return all_that_comes_behind(without_tables(places), tables)


# A list of (row, set) for each set that one may come to from start, in the order of the rows.
# A set goes on like a set of a table: so it is followed as a table that has no other.
def all_sets_from(start, tables):
    # One is at the start by no table: a row that leads back to it is no shorter.
    found = [((), start)]
    for row, comes in all_that_comes_behind((start,), tables):
        if comes[0] != start:
            found.append((row, comes[0]))
    return found


# The least power that comes again, and by how many steps: all behind it go round in these.
def way_round(table):
    exponents = {}
    power = table
    exponent = 1
    while power not in exponents:
        exponents[power] = exponent
        power = multiplied(power, table)
        exponent += 1
    return (exponents[power], exponent - exponents[power])


def is_nothing(table):
    return all([step == 0 for step in table])


def is_everything(table):
    everywhere = (1 << len(table)) - 1
    return all([step == everywhere for step in table])


def all_meet(table):
    common = table[0]
    for step in table:
        common = common & step
    return common != 0


def stays_if_doubled(table):
    return multiplied(table, table) == table
