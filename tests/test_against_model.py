"""Long lists of calls and all small tables, compared with the model in helper.py."""

import itertools
import unittest

from tests.helper import (
    LARGEST, LARGEST_IN_ROW, Model, Numbers, begin, cell, count, drop, goes, joined, nth, same, show, split, table,
    told, turn, word)
from yesnotables.tables import answers

FORMS = {
    "begin": begin, "table": table, "cell": cell, "drop": drop, "turn": turn, "show": show, "word": word, "goes": goes,
    "same": same, "count": count, "nth": nth,
}

# Names that stand more often are called more often.
OFTEN = ["table"] * 5 + ["cell"] * 4 + ["drop", "turn", "show", "count"] + ["word", "goes", "same", "nth"] * 2


def some_number(numbers, limit):
    """Mostly below the limit, now and then just at it or far beyond."""
    if numbers.below(12) == 0:
        return (limit, limit + 1, LARGEST)[numbers.below(3)]
    return numbers.below(limit)


def some_row(numbers, limit, longest):
    length = longest if numbers.below(10) == 0 else numbers.below(min(longest, 6) + 1)
    wrong = numbers.below(8) == 0
    return [min(some_number(numbers, limit), LARGEST_IN_ROW) if wrong else numbers.below(limit) for k in range(length)]


def some_sets(numbers, n):
    if numbers.below(8) == 0:
        return some_row(numbers, 2 ** n, 6)
    return [numbers.below(2 ** n) for i in range(n)]


def some_handed(numbers, name, model):
    n = model.n or 2
    tables = max(len(model.tables), 1)
    if name == "begin":
        return [some_number(numbers, 4)]
    if name == "table":
        return [some_sets(numbers, n)]
    if name == "cell":
        return [some_number(numbers, tables), some_number(numbers, n), some_number(numbers, n)]
    if name in ("drop", "show"):
        return [some_number(numbers, tables)]
    if name == "word":
        return [some_row(numbers, tables, 40)]
    if name == "goes":
        return [some_number(numbers, 2 ** n), some_row(numbers, tables, 40)]
    if name == "same":
        return [some_row(numbers, tables, 40), some_row(numbers, tables, 40)]
    if name == "nth":
        return [some_number(numbers, 30)]
    return []


class LongLists(unittest.TestCase):
    def test_alike(self):
        for seed in range(120):
            numbers = Numbers(seed)
            model = Model()
            calls = []
            expected = []
            for turn_of_call in range(1 + numbers.below(100)):
                name = "begin" if numbers.below(30) == 0 or turn_of_call == 2 else OFTEN[numbers.below(len(OFTEN))]
                handed = some_handed(numbers, name, model)
                calls.append(FORMS[name](*handed))
                expected.append(model.answer(name, *handed))
            self.assertEqual(split(answers(joined(calls))), expected, msg=f"seed {seed}")


class AllSmallTables(unittest.TestCase):
    def check_all_that_can_come(self, n, tables):
        model = Model()
        model.answer("begin", n)
        for sets in tables:
            model.answer("table", sets)
        rows = model.all_rows()
        looks = [count()] + [nth(i) for i in range(len(rows) + 1)]
        expected = [[len(rows)]] + [[len(row)] + row + model.sets(model.comes(row)) for row in rows] + [[-2]]
        self.assertEqual(told(begin(n), *[table(sets) for sets in tables], *looks)[1 + len(tables):], expected)

    def test_one_place(self):
        for size in range(4):
            for tables in itertools.product([[0], [1]], repeat=size):
                self.check_all_that_can_come(1, tables)

    def test_two_places_up_to_two_tables(self):
        every = [list(sets) for sets in itertools.product(range(4), repeat=2)]
        for size in range(3):
            for tables in itertools.product(every, repeat=size):
                self.check_all_that_can_come(2, tables)

    def test_two_places_three_tables(self):
        numbers = Numbers(5)
        for time in range(300):
            self.check_all_that_can_come(2, [[numbers.below(4) for i in range(2)] for k in range(3)])

    def test_three_places_one_table(self):
        for sets in itertools.product(range(8), repeat=3):
            self.check_all_that_can_come(3, [list(sets)])

    def test_three_places_more_tables(self):
        numbers = Numbers(6)
        for time in range(150):
            size = 2 + numbers.below(2)
            self.check_all_that_can_come(3, [[numbers.below(8) for i in range(3)] for k in range(size)])

    def test_two_places_all_pairs_multiplied(self):
        every = [list(sets) for sets in itertools.product(range(4), repeat=2)]
        for first, second in itertools.product(every, repeat=2):
            model = Model()
            model.answer("begin", 2)
            model.answer("table", first)
            model.answer("table", second)
            answered = told(begin(2), table(first), table(second), word([0, 1]), same([0, 1], [1, 0]))
            self.assertEqual(answered[3:], [model.answer("word", [0, 1]), model.answer("same", [0, 1], [1, 0])])


if __name__ == "__main__":
    unittest.main()
