"""Long lists of calls and all small tables, compared with the model in helper.py."""

import itertools
import unittest

from tests.helper import (
    LARGEST, LARGEST_IN_ROW, Model, Numbers, back, begin, cell, come, commute, count, drop, full, goes, joined, lead,
    met, nothing, nth, round_of, same, sets, show, split, state, still, table, told, turn, word)
from yesnotables.tables import answers

FORMS = {
    "begin": begin, "table": table, "cell": cell, "drop": drop, "turn": turn, "show": show, "word": word, "goes": goes,
    "same": same, "count": count, "nth": nth, "come": come, "nothing": nothing, "full": full, "met": met, "sets": sets,
    "lead": lead, "round": round_of, "still": still, "commute": commute, "back": back, "state": state,
}

# Names that stand more often are called more often.
OFTEN = ["table"] * 8 + ["cell"] * 7 + ["drop", "turn", "back"] * 2 + [
    "show", "count", "word", "goes", "same", "nth", "come", "nothing", "full", "met", "sets", "lead", "lead", "round",
    "still", "commute", "state"]


def some_number(numbers, limit):
    """Mostly below the limit, now and then just at it or far beyond."""
    if numbers.below(12) == 0:
        return (limit, limit + 1, LARGEST)[numbers.below(3)]
    return numbers.below(limit)


def some_row(numbers, limit, longest):
    length = longest if numbers.below(10) == 0 else numbers.below(min(longest, 6) + 1)
    wrong = numbers.below(8) == 0
    return [min(some_number(numbers, limit), LARGEST_IN_ROW) if wrong else numbers.below(limit) for k in range(length)]


def some_sets(numbers, n):
    if numbers.below(8) == 0:
        return some_row(numbers, 2 ** n, 6)
    return [numbers.below(2 ** n) for i in range(n)]


def some_handed(numbers, name, model):
    n = model.n or 2
    tables = max(len(model.tables), 1)
    if name == "begin":
        return [some_number(numbers, 4)]
    if name in ("table", "come"):
        return [some_sets(numbers, n)]
    if name == "cell":
        return [some_number(numbers, tables), some_number(numbers, n), some_number(numbers, n)]
    if name in ("drop", "show", "round"):
        return [some_number(numbers, tables)]
    if name == "commute":
        return [some_number(numbers, tables), some_number(numbers, tables)]
    if name == "sets":
        return [some_number(numbers, 2 ** n)]
    if name == "lead":
        return [some_number(numbers, 2 ** n), some_number(numbers, 2 ** n)]
    if name == "word":
        return [some_row(numbers, tables, 40)]
    if name == "goes":
        return [some_number(numbers, 2 ** n), some_row(numbers, tables, 40)]
    if name == "same":
        return [some_row(numbers, tables, 40), some_row(numbers, tables, 40)]
    if name == "nth":
        return [some_number(numbers, 30)]
    return []


def model_of(n, tables):
    model = Model()
    model.answer("begin", n)
    for row in tables:
        model.answer("table", row)
    return model


class LongLists(unittest.TestCase):
    def check_alike(self, seed, most_calls, often):
        numbers = Numbers(seed)
        model = Model()
        calls = []
        expected = []
        for turn_of_call in range(1 + numbers.below(most_calls)):
            name = "begin" if numbers.below(40) == 0 or turn_of_call == 2 else often[numbers.below(len(often))]
            handed = some_handed(numbers, name, model)
            calls.append(FORMS[name](*handed))
            expected.append(model.answer(name, *handed))
        self.assertEqual(split(answers(joined(calls))), expected, msg=f"seed {seed}")

    def test_alike(self):
        for seed in range(150):
            self.check_alike(seed, 120, OFTEN)

    def test_alike_to_and_fro(self):
        often = ["table", "cell", "drop", "turn"] * 3 + ["back"] * 6 + ["show", "state", "count"]
        for seed in range(1000, 1100):
            self.check_alike(seed, 256, often)


class AllSmallTables(unittest.TestCase):
    def check_looks(self, n, tables, looks):
        """Each look is a name and what is handed in with it."""
        model = model_of(n, tables)
        calls = [FORMS[look[0]](*look[1:]) for look in looks]
        answered = told(begin(n), *[table(row) for row in tables], *calls)[1 + len(tables):]
        self.assertEqual(answered, [model.answer(*look) for look in looks], msg=f"tables {tables}")

    def check_all_that_can_come(self, n, tables):
        model = model_of(n, tables)
        made = [begin(n)] + [table(row) for row in tables]
        rows = model.all_rows()
        looks = [count()] + [nth(i) for i in range(len(rows) + 1)]
        expected = [[len(rows)]] + [model.with_sets(row) for row in rows] + [[-2]]
        # One list has no more than 256 calls.
        for first in range(0, len(looks), 250):
            self.assertEqual(told(*made, *looks[first:first + 250])[len(made):], expected[first:first + 250])
        self.check_looks(n, tables, [("nothing",), ("full",), ("met",), ("still",)])

    def check_sets_and_leads(self, n, tables):
        every = range(2 ** n)
        self.check_looks(n, tables, [("sets", s) for s in every] + [("lead", s, u) for s in every for u in every])

    def check_come(self, n, tables):
        for row in itertools.product(range(2 ** n), repeat=n):
            self.check_looks(n, tables, [("come", list(row))])

    def test_one_place(self):
        for size in range(4):
            for tables in itertools.product([[0], [1]], repeat=size):
                self.check_all_that_can_come(1, tables)
                self.check_sets_and_leads(1, tables)
                self.check_come(1, tables)
                self.check_looks(1, tables, [("commute", k, j) for k in range(4) for j in range(4)])

    def test_two_places_up_to_two_tables(self):
        every = [list(row) for row in itertools.product(range(4), repeat=2)]
        for size in range(3):
            for tables in itertools.product(every, repeat=size):
                self.check_all_that_can_come(2, tables)
                self.check_sets_and_leads(2, tables)
                self.check_come(2, tables)

    def test_two_places_three_tables(self):
        numbers = Numbers(5)
        for time in range(300):
            tables = [[numbers.below(4) for i in range(2)] for k in range(3)]
            self.check_all_that_can_come(2, tables)
            self.check_sets_and_leads(2, tables)

    def test_three_places_one_table(self):
        for row in itertools.product(range(8), repeat=3):
            self.check_all_that_can_come(3, [list(row)])
            self.check_sets_and_leads(3, [list(row)])
            self.check_looks(3, [list(row)], [("round", 0), ("round", 1), ("commute", 0, 0), ("commute", 0, 1)])

    def test_three_places_more_tables(self):
        numbers = Numbers(6)
        for time in range(150):
            size = 2 + numbers.below(2)
            tables = [[numbers.below(8) for i in range(3)] for k in range(size)]
            self.check_all_that_can_come(3, tables)
            self.check_sets_and_leads(3, tables)
            self.check_looks(3, tables, [("commute", k, j) for k in range(4) for j in range(4)])

    def test_two_places_all_pairs_multiplied(self):
        every = [list(row) for row in itertools.product(range(4), repeat=2)]
        for tables in itertools.product(every, repeat=2):
            self.check_looks(2, tables, [("word", [0, 1]), ("same", [0, 1], [1, 0]), ("commute", 0, 1),
                                         ("commute", 1, 0), ("round", 0), ("round", 1)])


if __name__ == "__main__":
    unittest.main()
