"""Promise 2: table, cell, drop, turn."""

import unittest

from tests.helper import (
    LARGEST, LARGEST_IN_ROW, NOT_AS_TOLD, NO_SUCH, TOO_MANY, UnchangedTest, begin, cell, count, drop, goes, last_told,
    look_at_tables, nth, show, table, told, turn, word)
from yesnotables.tables import answers


class Table(UnchangedTest):
    def test_whole_list(self):
        self.assertEqual(answers([0, 2, 1, 2, 2, 1, 1, 2, 0, 3, 1, 2, 1, 1, 5, 0, 5, 1, 5, 2]),
                         [1, 0, 1, 0, 1, 1, 1, 2, 3, 2, 2, 1, 3, 2, 0, 3, 3, 2, 1, 1])

    def test_every_set_there_is(self):
        for n in (1, 2, 3):
            for s in range(2 ** n):
                for i in range(n):
                    row = [0] * n
                    row[i] = s
                    self.assertEqual(told(begin(n), table(row), show(0)), [[0], [0], [n] + row])

    def test_one_place(self):
        self.assertEqual(told(begin(1), table([0]), table([1]), show(0), show(1)),
                         [[0], [0], [1], [1, 0], [1, 1]])

    def test_told_twice(self):
        self.assertEqual(told(begin(2), table([3, 1]), table([3, 1]), table([3, 1]), show(2)),
                         [[0], [0], [1], [2], [2, 3, 1]])

    def test_told_twice_are_two(self):
        self.assertEqual(told(begin(2), table([3, 1]), table([3, 1]), cell(0, 0, 0), show(0), show(1)),
                         [[0], [0], [1], [2], [2, 2, 1], [2, 3, 1]])

    def test_row_is_not_n_sets(self):
        for n in (1, 2, 3):
            for length in range(7):
                if length != n:
                    self.check_refused([begin(n)], table([0] * length), NOT_AS_TOLD)
                    self.check_refused([begin(n), table([1] * n)], table([1] * length), NOT_AS_TOLD)

    def test_number_is_no_set(self):
        for n in (1, 2, 3):
            for s in (2 ** n, 2 ** n + 1, 256, LARGEST_IN_ROW - 1, LARGEST_IN_ROW):
                for i in range(n):
                    row = [1] * n
                    row[i] = s
                    self.check_refused([begin(n), table([1] * n)], table(row), NOT_AS_TOLD)

    def test_longest_and_largest_row(self):
        self.check_refused([begin(3)], table([LARGEST_IN_ROW] * 6), NOT_AS_TOLD)
        self.check_refused([begin(3)], table([LARGEST_IN_ROW] * 3), NOT_AS_TOLD)

    def test_too_many(self):
        made = [begin(2), table([2, 1]), table([1, 0]), table([3, 3])]
        self.check_refused(made, table([0, 0]), TOO_MANY)
        self.check_refused(made, table([2, 1]), TOO_MANY)

    def test_not_as_told_ahead_of_too_many(self):
        made = [begin(2), table([2, 1]), table([1, 0]), table([3, 3])]
        self.check_refused(made, table([0]), NOT_AS_TOLD)
        self.check_refused(made, table([]), NOT_AS_TOLD)
        self.check_refused(made, table([0, 4]), NOT_AS_TOLD)
        self.check_refused(made, table([LARGEST_IN_ROW] * 6), NOT_AS_TOLD)

    def test_room_again_behind_a_drop(self):
        self.assertEqual(told(begin(1), table([1]), table([1]), table([1]), table([0]), drop(0), table([0]), show(2)),
                         [[0], [0], [1], [2], TOO_MANY, [2], [2], [1, 0]])


class Cell(UnchangedTest):
    def test_whole_list(self):
        self.assertEqual(answers([0, 2, 1, 2, 0, 0, 2, 0, 0, 1, 2, 0, 1, 0, 2, 0, 0, 0, 2, 0, 0, 1, 5, 0]),
                         [1, 0, 1, 0, 1, 2, 1, 1, 1, 3, 1, 1, 3, 2, 1, 1])

    def test_yes_and_no_in_each_cell(self):
        for n in (1, 2, 3):
            for i in range(n):
                for j in range(n):
                    shown = [0] * n
                    shown[i] = 2 ** j
                    answered = told(begin(n), table([0] * n), cell(0, i, j), show(0), cell(0, i, j), show(0))
                    self.assertEqual(answered[2:], [[2 ** j], [n] + shown, [0], [n] + [0] * n])

    def test_out_of_everything(self):
        self.assertEqual(told(begin(3), table([7, 7, 7]), cell(0, 1, 2), show(0)), [[0], [0], [3], [3, 7, 3, 7]])

    def test_only_the_table_told(self):
        made = [begin(2), table([0, 0]), table([1, 1]), table([2, 2])]
        self.assertEqual(told(*made, cell(1, 0, 1), show(0), show(1), show(2))[4:],
                         [[3], [2, 0, 0], [2, 3, 1], [2, 2, 2]])

    def test_what_can_come_follows(self):
        self.assertEqual(told(begin(1), table([1]), count(), nth(0), cell(0, 0, 0), count(), nth(0)),
                         [[0], [0], [1], [1, 0, 1], [0], [1], [1, 0, 0]])
        self.assertEqual(told(begin(2), table([1, 2]), count(), cell(0, 0, 0), cell(0, 0, 1), count(), nth(1)),
                         [[0], [0], [1], [0], [2], [1], NO_SUCH])

    def test_no_such_table(self):
        self.check_refused([begin(2)], cell(0, 0, 0), NO_SUCH)
        made = [begin(2), table([2, 1]), table([1, 0])]
        for k in (2, 3, 65536, LARGEST):
            self.check_refused(made, cell(k, 0, 0), NO_SUCH)

    def test_no_such_place(self):
        for n in (1, 2, 3):
            made = [begin(n), table([1] * n)]
            for wrong in (n, n + 1, 64, LARGEST - 1, LARGEST):
                self.check_refused(made, cell(0, wrong, 0), NO_SUCH)
                self.check_refused(made, cell(0, 0, wrong), NO_SUCH)
                self.check_refused(made, cell(0, wrong, wrong), NO_SUCH)

    def test_all_wrong(self):
        self.check_refused([begin(3), table([1, 2, 4])], cell(LARGEST, LARGEST, LARGEST), NO_SUCH)


class Drop(UnchangedTest):
    def test_whole_list(self):
        self.assertEqual(answers([0, 1, 1, 1, 1, 1, 1, 0, 3, 0, 5, 0, 3, 0, 5, 0]),
                         [1, 0, 1, 0, 1, 1, 1, 1, 2, 1, 0, 1, 0, 1, -2])

    def test_those_behind_are_numbered_one_less(self):
        made = [begin(2), table([0, 1]), table([1, 2]), table([2, 3])]
        looks = [show(0), show(1), show(2)]
        self.assertEqual(told(*made, drop(0), *looks)[4:], [[2], [2, 1, 2], [2, 2, 3], NO_SUCH])
        self.assertEqual(told(*made, drop(1), *looks)[4:], [[2], [2, 0, 1], [2, 2, 3], NO_SUCH])
        self.assertEqual(told(*made, drop(2), *looks)[4:], [[2], [2, 0, 1], [2, 1, 2], NO_SUCH])

    def test_all_gone(self):
        self.assertEqual(told(begin(1), table([1]), table([0]), drop(1), drop(0), count(), drop(0), table([0])),
                         [[0], [0], [1], [1], [0], [0], NO_SUCH, [0]])

    def test_one_of_two_alike(self):
        self.assertEqual(told(begin(2), table([2, 1]), table([2, 1]), drop(0), show(0), show(1)),
                         [[0], [0], [1], [1], [2, 2, 1], NO_SUCH])

    def test_what_can_come_follows(self):
        self.assertEqual(told(begin(2), table([2, 1]), table([0, 0]), count(), drop(1), count(), drop(0), count()),
                         [[0], [0], [1], [3], [1], [2], [0], [0]])

    def test_no_such_table(self):
        self.check_refused([begin(3)], drop(0), NO_SUCH)
        self.check_refused([begin(3)], drop(LARGEST), NO_SUCH)
        made = [begin(2), table([2, 1]), table([1, 0])]
        for k in (2, 3, 4, 65536, LARGEST):
            self.check_refused(made, drop(k), NO_SUCH)
        self.check_refused(made + [table([3, 3])], drop(3), NO_SUCH)


class Turn(unittest.TestCase):
    def test_whole_list(self):
        self.assertEqual(answers([0, 3, 1, 3, 6, 0, 1, 1, 3, 2, 4, 1, 4, 5, 0, 5, 1]),
                         [1, 0, 1, 0, 1, 1, 1, 2, 4, 3, 4, 1, 1, 4, 3, 4, 1, 2])

    def test_no_tables(self):
        self.assertEqual(told(begin(2), turn(), turn(), count()), [[0], [0], [0], [0]])

    def test_one_place(self):
        self.assertEqual(told(begin(1), table([1]), table([0]), turn(), show(0), show(1)),
                         [[0], [0], [1], [2], [1, 1], [1, 0]])

    def test_how_many(self):
        self.assertEqual(last_told(begin(1), table([1]), turn()), [1])
        self.assertEqual(last_told(begin(1), table([1]), table([1]), table([1]), turn()), [3])

    def test_each_cell(self):
        for n in (1, 2, 3):
            for i in range(n):
                for j in range(n):
                    shown = [0] * n
                    shown[j] = 2 ** i
                    self.assertEqual(last_told(begin(n), table([0] * n), cell(0, i, j), turn(), show(0)), [n] + shown)

    def test_nothing_and_everything_stay(self):
        self.assertEqual(told(begin(3), table([0, 0, 0]), table([7, 7, 7]), turn(), show(0), show(1))[3:],
                         [[2], [3, 0, 0, 0], [3, 7, 7, 7]])

    def test_twice_is_as_it_was(self):
        made = [begin(3), table([6, 0, 1]), table([2, 4, 1]), table([1, 3, 7])]
        looks = look_at_tables()
        answered = told(*made, *looks, turn(), *looks, turn(), *looks)
        size = len(looks)
        self.assertEqual(answered[-size:], answered[4:4 + size])
        self.assertNotEqual(answered[5 + size:5 + 2 * size], answered[4:4 + size])

    def test_a_row_is_mirrored_from_its_end(self):
        made = [begin(3), table([6, 0, 1]), table([2, 4, 1]), table([1, 3, 7])]
        row = [0, 1, 2, 1, 1]
        plain = last_told(*made, word(row))
        single = last_told(begin(3), table(plain[1:]), turn(), show(0))
        self.assertEqual(last_told(*made, turn(), word(row[::-1])), single)

    def test_what_can_come_follows(self):
        self.assertEqual(told(begin(2), table([3, 0]), nth(0), turn(), nth(0), goes(1, [0]), goes(2, [0]))[2:],
                         [[1, 0, 3, 0], [1], [1, 0, 1, 1], [1], [1]])


if __name__ == "__main__":
    unittest.main()
