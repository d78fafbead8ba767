"""Tables as tuples of sets of places, and what comes of using them one behind another.

A set is a whole number: place i counts 2 to the power of i.
"""


# A row of no tables leaves everybody at their place.
def without_tables(places):
    return tuple([1 << i for i in range(places)])


# One may stand at any place of the set start, so all that these lead to counts.
def where_to(start, table):
    found = 0
    for i, step in enumerate(table):
        if start & (1 << i):
            found = found | step
    return found


def multiplied(first, second):
    return tuple([where_to(step, second) for step in first])


def where_from(table, j):
    found = 0
    for i, step in enumerate(table):
        if step & (1 << j):
            found = found | (1 << i)
    return found


def mirrored(table):
    return tuple([where_from(table, j) for j in range(len(table))])


# A table of its own comes of it: the one from before may still be kept.
def with_cell_changed(table, i, j):
    return table[:i] + (table[i] ^ (1 << j),) + table[i + 1:]


def what_comes(places, tables, row):
    comes = without_tables(places)
    for k in row:
        comes = multiplied(comes, tables[k])
    return comes


# A list of (row, table) for each table that comes of one table at least, in the order of the rows.
# A table's row without its last number is itself the row of what comes of it: did a row ahead of it
# give the same, that one with the last number behind it would be ahead of the table's row.
# So only the rows that were found last need to be made longer.
def all_that_can_come(places, tables):
    found = []
    seen = {}
    # The row of no tables is only a start: its table counts where a row with tables gives it.
    latest = [((), without_tables(places))]
    while latest:
        longer = []
        for row, comes in latest:
            for k, table in enumerate(tables):
                product = multiplied(comes, table)
                if product not in seen:
                    seen[product] = True
                    longer.append((row + (k,), product))
        found.extend(longer)
        latest = longer
    return found
