"""Promise 4, come, nothing, full, met and still: what is sought among all that can come."""

import itertools
import unittest

from tests.helper import (
    LARGEST_IN_ROW, NOT_AS_TOLD, THERE_IS_NONE, UnchangedTest, all_told, back, begin, cell, come, drop, full, last_told,
    met, nothing, still, table, told, turn, word)
from yesnotables.tables import answers

# Seven tables can come: swapped places, 0 alone, and what these give.
SEVEN = [begin(2), table([2, 1]), table([1, 0])]

MANY = [begin(3), table([2, 4, 1]), table([6, 2, 1]), table([0, 1, 2])]

# Everything comes only of a row of 9 tables, nothing only of one of 7, and all meet only by one of 4.
LATE_FULL = [begin(3), table([2, 4, 1]), table([2, 1, 4]), table([1, 2, 5])]
LATE_NOTHING = [begin(3), table([2, 6, 0]), table([4, 1, 3])]
LATE_MET = [begin(3), table([2, 4, 1]), table([2, 2, 4])]


def shorter_rows(size, length):
    """All rows of one table at least and fewer than length tables."""
    return [list(row) for shorter in range(1, length) for row in itertools.product(range(size), repeat=shorter)]


class SeekingTest(UnchangedTest):
    def check_no_shorter_row(self, made, answered, fits):
        """No row of fewer tables gives what fits, tried one by one."""
        rows = shorter_rows(len(made) - 1, answered[0])
        for first in range(0, len(rows), 200):
            for given in told(*made, *[word(row) for row in rows[first:first + 200]])[len(made):]:
                self.assertFalse(fits(given[1:]))


class Come(SeekingTest):
    def test_whole_list(self):
        self.assertEqual(answers([0, 2, 1, 2, 2, 1, 1, 2, 1, 0, 11, 2, 0, 1, 11, 2, 3, 3, 11, 1, 1, 11, 2, 1, 2]),
                         [1, 0, 1, 0, 1, 1, 5, 2, 0, 1, 0, 1, 1, -33, 1, -22, 5, 2, 0, 0, 1, 2])

    def test_each_that_can_come(self):
        for made in (SEVEN, LATE_MET, [begin(1), table([0]), table([1])]):
            for row, given in all_told(made):
                self.assertEqual(last_told(*made, come(given)), [len(row)] + row + given)

    def test_each_of_many(self):
        found = all_told(MANY)
        for first in range(0, len(found), 200):
            part = found[first:first + 200]
            self.assertEqual(told(*MANY, *[come(given) for row, given in part])[4:],
                             [[len(row)] + row + given for row, given in part])

    def test_all_others_cannot(self):
        can = [given for row, given in all_told(SEVEN)]
        for row in itertools.product(range(4), repeat=2):
            if list(row) not in can:
                self.assertEqual(last_told(*SEVEN, come(row)), THERE_IS_NONE)
        self.assertEqual(len(can), 7)

    def test_no_tables(self):
        self.assertEqual(told(begin(1), come([0]), come([1])), [[0]] + [THERE_IS_NONE] * 2)
        self.assertEqual(told(begin(3), come([1, 2, 4]), come([0, 0, 0])), [[0]] + [THERE_IS_NONE] * 2)

    def test_without_tables_does_not_come_by_itself(self):
        self.assertEqual(last_told(begin(2), table([3, 3]), come([1, 2])), THERE_IS_NONE)
        self.assertEqual(last_told(begin(2), table([1, 2]), come([1, 2])), [1, 0, 1, 2])
        self.assertEqual(last_told(begin(3), table([2, 4, 1]), come([1, 2, 4])), [3, 0, 0, 0, 1, 2, 4])

    def test_one_place(self):
        self.assertEqual(told(begin(1), table([1]), come([1]), come([0]))[2:], [[1, 0, 1], THERE_IS_NONE])
        self.assertEqual(told(begin(1), table([0]), come([1]), come([0]))[2:], [THERE_IS_NONE, [1, 0, 0]])

    def test_a_table_told_twice(self):
        self.assertEqual(told(begin(2), table([0, 0]), table([2, 1]), table([2, 1]), come([2, 1]), come([1, 2]))[4:],
                         [[1, 1, 2, 1], [2, 1, 1, 1, 2]])

    def test_rows_of_which_the_same_comes(self):
        # 0 then 1 and 1 then 0 give the same; the row told begins with 0.
        self.assertEqual(last_told(begin(2), table([1, 0]), table([0, 2]), come([0, 0])), [2, 0, 1, 0, 0])

    def test_only_behind_many(self):
        self.assertEqual(last_told(*LATE_FULL, come([7, 7, 7])), [9, 2, 0, 0, 2, 0, 0, 2, 1, 2, 7, 7, 7])

    def test_not_as_told(self):
        for n in (1, 2, 3):
            for made in ([begin(n)], [begin(n), table([1] * n)]):
                for length in range(7):
                    if length != n:
                        self.assertEqual(last_told(*made, come([1] * length)), NOT_AS_TOLD)
                        self.assertEqual(last_told(*made, come([LARGEST_IN_ROW] * length)), NOT_AS_TOLD)
                for i in range(n):
                    for wrong in (2 ** n, 2 ** n + 1, 256, LARGEST_IN_ROW):
                        row = [1] * n
                        row[i] = wrong
                        self.assertEqual(last_told(*made, come(row)), NOT_AS_TOLD)

    def test_not_as_told_ahead_of_there_is_none(self):
        self.assertEqual(told(begin(2), come([4, 0]), come([0, 0, 0]), come([]))[1:], [NOT_AS_TOLD] * 3)
        self.assertEqual(told(*SEVEN, come([3, 4]), come([3, 3, 3]), come([3, 3]))[3:],
                         [NOT_AS_TOLD, NOT_AS_TOLD, THERE_IS_NONE])

    def test_follows_each_change(self):
        sought = come([1, 0])
        self.assertEqual(told(begin(2), sought, table([1, 0]), sought, table([1, 0]), drop(0), sought, cell(0, 0, 0),
                              sought, back(), turn(), sought, back(), cell(0, 0, 1), sought, turn(), sought)[1:],
                         [[-33], [0], [1, 0, 1, 0], [1], [1], [1, 0, 1, 0], [0], [-33], [3], [1], [1, 0, 1, 0], [3],
                          [3], [-33], [1], [-33]])

    def test_changes_nothing(self):
        for call in (come([0, 1]), come([3, 3]), come([4, 0]), come([])):
            self.check_nothing_changed(SEVEN, call)


class Nothing(SeekingTest):
    def test_whole_list(self):
        self.assertEqual(answers([0, 2, 12, 1, 2, 2, 1, 12, 1, 2, 1, 0, 12]),
                         [1, 0, 1, -33, 1, 0, 1, -33, 1, 1, 6, 3, 1, 0, 1, 0, 0])

    def test_no_tables(self):
        for n in (1, 2, 3):
            self.assertEqual(told(begin(n), nothing()), [[0], THERE_IS_NONE])

    def test_a_table_that_is_nothing(self):
        for n in (1, 2, 3):
            self.assertEqual(last_told(begin(n), table([0] * n), nothing()), [1, 0] + [0] * n)
            self.assertEqual(last_told(begin(n), table([1] * n), table([0] * n), nothing()), [1, 1] + [0] * n)

    def test_told_twice(self):
        self.assertEqual(last_told(begin(2), table([1, 2]), table([0, 0]), table([0, 0]), nothing()), [1, 1, 0, 0])

    def test_the_first_of_as_short_rows(self):
        self.assertEqual(last_told(begin(2), table([1, 0]), table([0, 2]), nothing()), [2, 0, 1, 0, 0])
        self.assertEqual(last_told(begin(2), table([1, 2]), table([1, 0]), table([0, 2]), nothing()), [2, 1, 2, 0, 0])

    def test_one_place(self):
        self.assertEqual(told(begin(1), table([1]), nothing(), cell(0, 0, 0), nothing())[2:],
                         [THERE_IS_NONE, [0], [1, 0, 0]])

    def test_some_set_always_left(self):
        # From 2 one goes everywhere, and from everywhere on by either table everywhere again.
        self.assertEqual(last_told(begin(3), table([2, 4, 1]), table([0, 0, 7]), nothing()), THERE_IS_NONE)
        self.assertEqual(last_told(begin(3), table([1, 0, 0]), nothing()), THERE_IS_NONE)
        self.assertEqual(last_told(begin(3), table([0, 0, 4]), nothing()), THERE_IS_NONE)

    def test_only_behind_many(self):
        answered = last_told(*LATE_NOTHING, nothing())
        self.assertEqual(answered, [7, 0, 1, 1, 0, 1, 1, 0, 0, 0, 0])
        self.check_no_shorter_row(LATE_NOTHING, answered, lambda row: row == [0, 0, 0])

    def test_behind_nothing_comes_nothing(self):
        row = last_told(*LATE_NOTHING, nothing())[1:8]
        for more in ([0], [1], [0, 1, 0], [1] * 33):
            self.assertEqual(last_told(*LATE_NOTHING, word(row + more)), [3, 0, 0, 0])
            self.assertEqual(last_told(*LATE_NOTHING, word(more + row)), [3, 0, 0, 0])

    def test_follows_each_change(self):
        self.assertEqual(told(begin(1), nothing(), table([0]), nothing(), drop(0), nothing(), back(), nothing(),
                              cell(0, 0, 0), nothing(), turn(), nothing())[1:],
                         [[-33], [0], [1, 0, 0], [0], [-33], [1], [1, 0, 0], [1], [-33], [1], [-33]])

    def test_changes_nothing(self):
        self.check_nothing_changed(SEVEN, nothing())
        self.check_nothing_changed([begin(2), table([2, 1])], nothing())


class Full(SeekingTest):
    def test_whole_list(self):
        self.assertEqual(answers([0, 2, 13, 1, 2, 3, 1, 13, 3, 0, 1, 2, 2, 1, 13]),
                         [1, 0, 1, -33, 1, 0, 5, 2, 0, 0, 3, 3, 1, 0, 1, 0, 1, -33])

    def test_no_tables(self):
        for n in (1, 2, 3):
            self.assertEqual(told(begin(n), full()), [[0], THERE_IS_NONE])

    def test_a_table_that_is_everything(self):
        for n in (1, 2, 3):
            every = [2 ** n - 1] * n
            self.assertEqual(last_told(begin(n), table(every), full()), [1, 0] + every)
            self.assertEqual(last_told(begin(n), table([0] * n), table(every), full()), [1, 1] + every)

    def test_one_place(self):
        self.assertEqual(told(begin(1), table([0]), full(), cell(0, 0, 0), full())[2:], [[-33], [1], [1, 0, 1]])

    def test_not_all_sets_are_all_places(self):
        self.assertEqual(last_told(begin(2), table([3, 0]), full()), THERE_IS_NONE)
        self.assertEqual(last_told(begin(3), table([7, 7, 0]), full()), THERE_IS_NONE)
        self.assertEqual(last_told(begin(3), table([0, 7, 7]), full()), THERE_IS_NONE)
        self.assertEqual(last_told(begin(3), table([3, 3, 3]), full()), THERE_IS_NONE)

    def test_told_twice(self):
        self.assertEqual(last_told(begin(2), table([1, 2]), table([3, 3]), table([3, 3]), full()), [1, 1, 3, 3])

    def test_the_first_of_as_short_rows(self):
        # Everything comes of 0 then 1 and of 1 then 0.
        self.assertEqual(last_told(begin(2), table([3, 2]), table([1, 3]), full()), [2, 0, 1, 3, 3])

    def test_only_behind_many(self):
        answered = last_told(*LATE_FULL, full())
        self.assertEqual(answered, [9, 2, 0, 0, 2, 0, 0, 2, 1, 2, 7, 7, 7])
        self.check_no_shorter_row(LATE_FULL, answered, lambda row: row == [7, 7, 7])

    def test_only_a_high_power(self):
        self.assertEqual(last_told(begin(3), table([2, 4, 3]), full()), [5, 0, 0, 0, 0, 0, 7, 7, 7])

    def test_all_meet_and_not_everything(self):
        self.assertEqual(told(*LATE_MET, full(), met())[3:], [THERE_IS_NONE, [4, 1, 0, 0, 1, 2, 2, 2]])

    def test_follows_each_change(self):
        self.assertEqual(told(begin(2), full(), table([3, 1]), full(), drop(0), full(), back(), full(), cell(0, 0, 0),
                              full(), back(), turn(), full())[1:],
                         [[-33], [0], [2, 0, 0, 3, 3], [0], [-33], [1], [2, 0, 0, 3, 3], [2], [-33], [1], [1],
                          [2, 0, 0, 3, 3]])

    def test_changes_nothing(self):
        self.check_nothing_changed([begin(2), table([3, 1])], full())
        self.check_nothing_changed(SEVEN, full())


class Met(SeekingTest):
    def test_whole_list(self):
        self.assertEqual(answers([0, 2, 14, 1, 2, 2, 1, 14, 1, 2, 2, 2, 14]),
                         [1, 0, 1, -33, 1, 0, 1, -33, 1, 1, 4, 1, 1, 2, 2])

    def test_no_tables(self):
        for n in (1, 2, 3):
            self.assertEqual(told(begin(n), met()), [[0], THERE_IS_NONE])

    def test_one_place(self):
        self.assertEqual(told(begin(1), table([0]), met(), cell(0, 0, 0), met())[2:], [[-33], [1], [1, 0, 1]])

    def test_at_each_place(self):
        for n in (1, 2, 3):
            for j in range(n):
                self.assertEqual(last_told(begin(n), table([2 ** j] * n), met()), [1, 0] + [2 ** j] * n)

    def test_in_all_sets(self):
        self.assertEqual(last_told(begin(3), table([3, 6, 2]), met()), [1, 0, 3, 6, 2])
        self.assertEqual(last_told(begin(3), table([5, 4, 6]), met()), [1, 0, 5, 4, 6])
        self.assertEqual(last_told(begin(3), table([7, 7, 7]), met()), [1, 0, 7, 7, 7])

    def test_two_and_two_is_not_all(self):
        # Each two sets share a place, all three share none; twice used they do.
        self.assertEqual(last_told(begin(3), table([3, 6, 5]), met()), [2, 0, 0, 7, 7, 7])

    def test_an_empty_set_meets_nobody(self):
        self.assertEqual(last_told(begin(3), table([1, 1, 0]), met()), THERE_IS_NONE)
        self.assertEqual(last_told(begin(3), table([0, 2, 2]), met()), THERE_IS_NONE)
        self.assertEqual(last_told(begin(2), table([0, 0]), met()), THERE_IS_NONE)

    def test_the_first_such_one(self):
        self.assertEqual(last_told(begin(2), table([3, 3]), table([1, 1]), met()), [1, 0, 3, 3])
        self.assertEqual(last_told(begin(2), table([1, 2]), table([1, 1]), table([3, 3]), met()), [1, 1, 1, 1])

    def test_told_twice(self):
        self.assertEqual(last_told(begin(2), table([2, 1]), table([1, 1]), table([1, 1]), met()), [1, 1, 1, 1])

    def test_only_behind_many(self):
        answered = last_told(*LATE_MET, met())
        self.assertEqual(answered, [4, 1, 0, 0, 1, 2, 2, 2])
        self.check_no_shorter_row(LATE_MET, answered, lambda row: row[0] & row[1] & row[2])

    def test_ahead_of_everything(self):
        self.assertEqual(told(begin(2), table([3, 1]), met(), full())[2:], [[1, 0, 3, 1], [2, 0, 0, 3, 3]])

    def test_follows_each_change(self):
        self.assertEqual(told(begin(2), met(), table([1, 1]), met(), turn(), met(), back(), met(), drop(0), met(),
                              back(), cell(0, 0, 0), met())[1:],
                         [[-33], [0], [1, 0, 1, 1], [1], [-33], [1], [1, 0, 1, 1], [0], [-33], [1], [0], [-33]])

    def test_changes_nothing(self):
        self.check_nothing_changed(LATE_MET, met())
        self.check_nothing_changed(SEVEN, met())


class Still(SeekingTest):
    def test_whole_list(self):
        # Of the seven: 0 alone, both at their place, 1 alone, nothing.
        self.assertEqual(answers([0, 2, 18, 1, 2, 2, 1, 18, 1, 2, 1, 0, 18]), [1, 0, 1, 0, 1, 0, 1, 1, 1, 1, 1, 4])

    def test_no_tables(self):
        for n in (1, 2, 3):
            self.assertEqual(told(begin(n), still()), [[0], [0]])

    def test_one_place(self):
        self.assertEqual(last_told(begin(1), table([1]), still()), [1])
        self.assertEqual(last_told(begin(1), table([0]), still()), [1])
        self.assertEqual(last_told(begin(1), table([0]), table([1]), table([0]), still()), [2])

    def test_nothing_and_everything_and_each_at_its_place(self):
        for row in ([0, 0, 0], [7, 7, 7], [1, 2, 4]):
            self.assertEqual(last_told(begin(3), table(row), still()), [1])
        self.assertEqual(last_told(begin(3), table([0, 0, 0]), table([7, 7, 7]), table([1, 2, 4]), still()), [3])

    def test_those_told_are_not_alone(self):
        # Neither table stays the same, but some of what comes of them does.
        self.assertEqual(last_told(begin(3), table([2, 4, 1]), table([2, 1, 4]), still()), [1])
        self.assertEqual(last_told(begin(3), table([2, 4, 0]), still()), [1])

    def test_without_tables_is_not_counted_by_itself(self):
        self.assertEqual(last_told(begin(2), table([3, 3]), still()), [1])

    def test_a_table_told_twice_counts_once(self):
        self.assertEqual(last_told(begin(2), table([3, 3]), table([3, 3]), still()), [1])

    def test_as_many_as_told_one_by_one(self):
        for made in (SEVEN, LATE_FULL, LATE_NOTHING, LATE_MET, MANY):
            kept = 0
            for row, given in all_told(made):
                kept += last_told(*made, word(row + row))[1:] == given
            self.assertEqual(last_told(*made, still()), [kept])

    def test_follows_each_change(self):
        self.assertEqual(told(begin(2), still(), table([3, 3]), still(), table([0, 0]), still(), cell(1, 0, 1), still(),
                              back(), still(), drop(0), still(), turn(), still())[1:],
                         [[0], [0], [1], [1], [2], [2], [4], [2], [2], [1], [1], [1], [1]])

    def test_changes_nothing(self):
        self.check_nothing_changed(SEVEN, still())


class Size(unittest.TestCase):
    def test_256_calls_among_many(self):
        answered = told(*MANY, *[nothing(), full(), met(), still(), come([0, 0, 0]), come([7, 7, 7])] * 42)
        self.assertEqual(len(answered), 256)
        for at in range(10, 256, 6):
            self.assertEqual(answered[at:at + 6], answered[4:10])

    def test_256_calls_with_changes_between(self):
        answered = told(*MANY, *[cell(0, 0, 0), still(), back(), met()] * 63)
        self.assertEqual(answered[8:], answered[4:8] * 62)


if __name__ == "__main__":
    unittest.main()
