"""Promise 4, count and nth: all that can come, and its order."""

import unittest

from tests.helper import (
    LARGEST, NO_SUCH, Model, UnchangedTest, all_told, begin, cell, count, drop, last_told, nth, table, told, turn, word)
from yesnotables.tables import answers

# As many as were found to come of 3 tables, and as long a row as was found.
MANY = [begin(3), table([2, 4, 1]), table([6, 2, 1]), table([0, 1, 2])]
LONG = [begin(3), table([2, 0, 1]), table([5, 1, 2]), table([2, 4, 1])]


class Count(UnchangedTest):
    def test_whole_list(self):
        self.assertEqual(answers([0, 2, 1, 2, 2, 1, 9, 1, 2, 1, 0, 9]), [1, 0, 1, 0, 1, 2, 1, 1, 1, 7])

    def test_no_tables(self):
        for n in (1, 2, 3):
            self.assertEqual(told(begin(n), count()), [[0], [0]])

    def test_one_place(self):
        self.assertEqual(last_told(begin(1), table([1]), count()), [1])
        self.assertEqual(last_told(begin(1), table([0]), count()), [1])
        self.assertEqual(last_told(begin(1), table([0]), table([1]), count()), [2])
        self.assertEqual(last_told(begin(1), table([1]), table([0]), table([1]), count()), [2])

    def test_nothing(self):
        for n in (1, 2, 3):
            self.assertEqual(last_told(begin(n), table([0] * n), count()), [1])
        self.assertEqual(last_told(begin(3), table([2, 4, 0]), count()), [3])

    def test_without_tables_is_not_counted_by_itself(self):
        self.assertEqual(last_told(begin(2), table([3, 3]), count()), [1])
        self.assertEqual(last_told(begin(2), table([1, 2]), count()), [1])
        self.assertEqual(last_told(begin(3), table([2, 4, 1]), count()), [3])

    def test_a_table_told_twice(self):
        self.assertEqual(last_told(begin(3), table([2, 4, 1]), table([2, 4, 1]), count()), [3])
        self.assertEqual(last_told(begin(2), table([2, 1]), table([1, 0]), table([2, 1]), count()), [7])

    def test_all_moves_of_three_places(self):
        self.assertEqual(last_told(begin(3), table([2, 4, 1]), table([2, 1, 4]), count()), [6])
        self.assertEqual(last_told(begin(3), table([2, 4, 1]), table([2, 1, 4]), table([1, 1, 4]), count()), [27])

    def test_many(self):
        self.assertEqual(last_told(*MANY, count()), [440])
        self.assertEqual(last_told(*LONG, count()), [386])

    def test_follows_each_change(self):
        self.assertEqual(
            told(begin(2), count(), table([2, 1]), count(), table([1, 0]), count(), cell(1, 0, 0), count(),
                 turn(), count(), drop(0), count(), drop(0), count())[1:],
            [[0], [0], [2], [1], [7], [0], [3], [2], [3], [1], [1], [0], [0]])

    def test_counting_changes_nothing(self):
        for made in ([begin(2), table([2, 1]), table([1, 0])], [begin(3)], MANY):
            self.check_nothing_changed(made, count())


class Nth(UnchangedTest):
    def test_whole_list(self):
        self.assertEqual(answers([0, 2, 1, 2, 2, 1, 1, 2, 1, 0,
                                  10, 0, 10, 1, 10, 2, 10, 3, 10, 4, 10, 5, 10, 6, 10, 7]),
                         [1, 0, 1, 0, 1, 1,
                          4, 1, 0, 2, 1,
                          4, 1, 1, 1, 0,
                          5, 2, 0, 0, 1, 2,
                          5, 2, 0, 1, 0, 1,
                          5, 2, 1, 0, 2, 0,
                          6, 3, 0, 1, 0, 0, 2,
                          6, 3, 1, 0, 1, 0, 0,
                          1, -2])

    def test_one_place(self):
        self.assertEqual(told(begin(1), table([1]), nth(0), nth(1)), [[0], [0], [1, 0, 1], NO_SUCH])
        self.assertEqual(told(begin(1), table([0]), table([1]), nth(0), nth(1), nth(2))[3:],
                         [[1, 0, 0], [1, 1, 1], NO_SUCH])

    def test_nothing(self):
        self.assertEqual(told(begin(3), table([0, 0, 0]), nth(0), nth(1))[2:], [[1, 0, 0, 0, 0], NO_SUCH])
        self.assertEqual(told(begin(3), table([2, 4, 0]), nth(0), nth(1), nth(2), nth(3))[2:],
                         [[1, 0, 2, 4, 0], [2, 0, 0, 4, 0, 0], [3, 0, 0, 0, 0, 0, 0], NO_SUCH])

    def test_without_tables_comes_of_a_row(self):
        self.assertEqual(told(begin(3), table([2, 4, 1]), nth(0), nth(1), nth(2), nth(3))[2:],
                         [[1, 0, 2, 4, 1], [2, 0, 0, 4, 1, 2], [3, 0, 0, 0, 1, 2, 4], NO_SUCH])
        self.assertEqual(told(begin(2), table([1, 2]), nth(0), nth(1))[2:], [[1, 0, 1, 2], NO_SUCH])

    def test_a_table_told_twice_is_told_by_the_first(self):
        self.assertEqual(told(begin(2), table([2, 1]), table([2, 1]), nth(0), nth(1), nth(2))[3:],
                         [[1, 0, 2, 1], [2, 0, 0, 1, 2], NO_SUCH])
        self.assertEqual(told(begin(1), table([0]), table([1]), table([1]), nth(0), nth(1), nth(2))[4:],
                         [[1, 0, 0], [1, 1, 1], NO_SUCH])

    def test_the_shorter_row_first(self):
        # Table 2 is what comes of 0 behind 0: its own row is the shorter one.
        self.assertEqual(told(begin(3), table([2, 4, 1]), table([0, 0, 0]), table([4, 1, 2]),
                              nth(0), nth(1), nth(2), nth(3), nth(4))[4:],
                         [[1, 0, 2, 4, 1], [1, 1, 0, 0, 0], [1, 2, 4, 1, 2], [2, 0, 2, 1, 2, 4], NO_SUCH])

    def test_of_as_short_ones_the_first(self):
        # 0 then 1 and 1 then 0 give the same; the row told begins with 0.
        self.assertEqual(told(begin(2), table([1, 0]), table([0, 2]), nth(0), nth(1), nth(2), nth(3))[3:],
                         [[1, 0, 1, 0], [1, 1, 0, 2], [2, 0, 1, 0, 0], NO_SUCH])

    def test_everything_only_behind_many(self):
        made = [begin(3), table([2, 4, 1]), table([2, 1, 4]), table([1, 2, 5])]
        rows = [row for row, sets in all_told(made) if sets == [7, 7, 7]]
        self.assertEqual(rows, [[2, 0, 0, 2, 0, 0, 2, 1, 2]])

    def test_last_of_many(self):
        self.assertEqual(told(*MANY, nth(439), nth(440))[4:],
                         [[12, 0, 0, 1, 0, 2, 0, 1, 0, 0, 1, 0, 0, 3, 4, 4], NO_SUCH])

    def test_many_are_all_that_can_come(self):
        for made in (MANY, LONG):
            model = Model()
            model.answer("begin", 3)
            for call in made[1:]:
                model.answer("table", call[2:])
            rows = model.all_rows()
            found = all_told(made)
            self.assertEqual([row for row, sets in found], rows)
            self.assertEqual([sets for row, sets in found], [model.sets(model.comes(row)) for row in rows])

    def test_each_once_in_order_and_of_its_row(self):
        for made in (MANY, LONG):
            found = all_told(made)
            keys = [(len(row), row) for row, sets in found]
            self.assertEqual(keys, sorted(keys))
            self.assertEqual(len(set(tuple(sets) for row, sets in found)), len(found))
            for row, sets in found:
                self.assertEqual(last_told(*made, word(row)), [3] + sets)

    def test_longest_row_found(self):
        self.assertEqual(max(len(row) for row, sets in all_told(LONG)), 20)

    def test_there_are_no_more(self):
        for n in (1, 2, 3):
            self.assertEqual(told(begin(n), nth(0), nth(1), nth(LARGEST)), [[0], NO_SUCH, NO_SUCH, NO_SUCH])
        made = [begin(2), table([2, 1]), table([1, 0])]
        for i in (7, 8, 65536, LARGEST - 1, LARGEST):
            self.assertEqual(last_told(*made, nth(i)), NO_SUCH)

    def test_follows_each_change(self):
        made = [begin(2), table([2, 1]), nth(0), nth(1)]
        self.assertEqual(told(*made, table([1, 0]), nth(1))[4:], [[1], [1, 1, 1, 0]])
        self.assertEqual(told(*made, cell(0, 0, 0), nth(0), nth(1))[4:], [[3], [1, 0, 3, 1], [2, 0, 0, 3, 3]])
        self.assertEqual(told(*made, drop(0), nth(0))[4:], [[0], NO_SUCH])
        self.assertEqual(told(*made, cell(0, 0, 0), nth(0), turn(), nth(0))[5:], [[1, 0, 3, 1], [1], [1, 0, 3, 1]])
        self.assertEqual(told(begin(2), table([3, 0]), nth(0), turn(), nth(0))[2:], [[1, 0, 3, 0], [1], [1, 0, 1, 1]])

    def test_looking_changes_nothing(self):
        made = [begin(2), table([2, 1]), table([1, 0])]
        for call in (nth(0), nth(6), nth(7), nth(LARGEST)):
            self.check_nothing_changed(made, call)


if __name__ == "__main__":
    unittest.main()
