"""Promise 3: show, word, goes, same, commute."""

import unittest

from tests.helper import (
    LARGEST, LARGEST_IN_ROW, NOT_AS_TOLD, NO_SUCH, UnchangedTest, back, begin, cell, commute, drop, goes, last_told,
    same, show, table, told, turn, word)
from yesnotables.tables import answers

# Table 0 goes round by three places, table 1 is nothing, table 2 may go from 0 to 0 and 1, from 1 to 2.
MADE = [begin(3), table([2, 4, 1]), table([0, 0, 0]), table([3, 4, 0])]

WRONG_NUMBERS = (3, 4, 256, LARGEST_IN_ROW)


class Show(unittest.TestCase):
    def test_whole_list(self):
        self.assertEqual(answers([0, 3, 1, 3, 2, 4, 1, 5, 0, 5, 1]), [1, 0, 1, 0, 4, 3, 2, 4, 1, 1, -2])

    def test_each_table(self):
        self.assertEqual(told(*MADE, show(2), show(1), show(0))[4:], [[3, 3, 4, 0], [3, 0, 0, 0], [3, 2, 4, 1]])

    def test_one_place(self):
        self.assertEqual(told(begin(1), table([1]), show(0)), [[0], [0], [1, 1]])

    def test_no_such_table(self):
        self.assertEqual(told(begin(2), show(0), show(LARGEST)), [[0], NO_SUCH, NO_SUCH])
        for k in (3, 4, 65536, LARGEST - 1, LARGEST):
            self.assertEqual(last_told(*MADE, show(k)), NO_SUCH)
        self.assertEqual(last_told(*MADE, drop(0), show(2)), NO_SUCH)


class Word(unittest.TestCase):
    def test_whole_list(self):
        # 0 -> 1 and 1 -> 0, then 0 -> 0 alone: from 1 on one is at 0; the other way round from 0 on at 1.
        self.assertEqual(answers([0, 2, 1, 2, 2, 1, 1, 2, 1, 0, 6, 2, 0, 1, 6, 2, 1, 0]),
                         [1, 0, 1, 0, 1, 1, 3, 2, 0, 1, 3, 2, 2, 0])

    def test_no_tables_in_the_row(self):
        self.assertEqual(last_told(*MADE, word([])), [3, 1, 2, 4])
        self.assertEqual(last_told(begin(3), word([])), [3, 1, 2, 4])
        self.assertEqual(last_told(begin(1), word([])), [1, 1])

    def test_one_table(self):
        for k in range(3):
            self.assertEqual(last_told(*MADE, word([k])), last_told(*MADE, show(k)))

    def test_from_first_to_last(self):
        self.assertEqual(told(*MADE, word([2, 0]), word([0, 2]), word([2, 2]), word([0, 0, 2]))[4:],
                         [[3, 6, 1, 0], [3, 4, 0, 3], [3, 7, 0, 0], [3, 0, 3, 4]])

    def test_behind_nothing_comes_nothing(self):
        for row in ([1], [1, 0], [0, 1], [2, 1, 2], [0] * 20 + [1] + [2] * 19):
            self.assertEqual(last_told(*MADE, word(row)), [3, 0, 0, 0])

    def test_one_place(self):
        made = [begin(1), table([1]), table([0])]
        self.assertEqual(told(*made, word([0, 0]), word([0, 1]), word([1]), word([]))[3:],
                         [[1, 1], [1, 0], [1, 0], [1, 1]])

    def test_longest_row(self):
        self.assertEqual(last_told(*MADE, word([0] * 39)), [3, 1, 2, 4])
        self.assertEqual(last_told(*MADE, word([0] * 40)), [3, 2, 4, 1])
        self.assertEqual(last_told(*MADE, word([0] * 39 + [2])), [3, 3, 4, 0])
        self.assertEqual(last_told(*MADE, word([2] + [0] * 39)), [3, 3, 4, 0])
        self.assertEqual(last_told(*MADE, word([2] * 40)), [3, 7, 0, 0])

    def test_it_does_not_matter_which_two_first(self):
        made = [begin(3), table([6, 0, 1]), table([2, 4, 1]), table([1, 3, 7])]
        whole = last_told(*made, word([0, 2, 1, 1, 2]))
        for cut in range(6):
            left = last_told(*made, word([0, 2, 1, 1, 2][:cut]))[1:]
            right = last_told(*made, word([0, 2, 1, 1, 2][cut:]))[1:]
            self.assertEqual(last_told(begin(3), table(left), table(right), word([0, 1])), whole)

    def test_no_such_table(self):
        self.assertEqual(told(begin(2), word([0]), word([0] * 40)), [[0], NO_SUCH, NO_SUCH])
        for wrong in WRONG_NUMBERS:
            for row in ([wrong], [wrong, 0], [0, wrong], [1, wrong, 1], [0] * 39 + [wrong], [wrong] * 40):
                self.assertEqual(last_told(*MADE, word(row)), NO_SUCH)
        self.assertEqual(last_told(*MADE, drop(1), word([0, 2])), NO_SUCH)


class Goes(unittest.TestCase):
    def test_whole_list(self):
        self.assertEqual(answers([0, 2, 1, 2, 2, 1, 1, 2, 1, 0, 7, 3, 1, 0, 7, 2, 2, 0, 1, 7, 1, 2, 0, 1, 7, 2, 0]),
                         [1, 0, 1, 0, 1, 1, 1, 3, 1, 1, 1, 0, 1, 2])

    def test_no_tables_in_the_row(self):
        for s in range(8):
            self.assertEqual(last_told(*MADE, goes(s, [])), [s])
            self.assertEqual(last_told(begin(3), goes(s, [])), [s])

    def test_the_empty_set(self):
        for row in ([], [0], [1], [2, 0, 2], [0] * 40):
            self.assertEqual(last_told(*MADE, goes(0, row)), [0])

    def test_each_set(self):
        self.assertEqual([last_told(*MADE, goes(s, [2]))[0] for s in range(8)], [0, 3, 4, 7, 0, 3, 4, 7])
        self.assertEqual([last_told(*MADE, goes(s, [0]))[0] for s in range(8)], [0, 2, 4, 6, 1, 3, 5, 7])
        self.assertEqual([last_told(*MADE, goes(s, [2, 0]))[0] for s in range(8)], [0, 6, 1, 7, 0, 6, 1, 7])

    def test_nothing(self):
        for s in range(8):
            self.assertEqual(last_told(*MADE, goes(s, [0, 1])), [0])

    def test_one_place(self):
        self.assertEqual(told(begin(1), table([1]), table([0]), goes(1, [0]), goes(1, [1]), goes(0, [0]))[3:],
                         [[1], [0], [0]])

    def test_longest_row(self):
        self.assertEqual(last_told(*MADE, goes(1, [0] * 40)), [2])
        self.assertEqual(last_told(*MADE, goes(1, [0] * 39 + [2])), [3])
        self.assertEqual(last_told(*MADE, goes(1, [2] * 40)), [7])

    def test_sets_go_as_all_their_places_do(self):
        for row in ([0], [2], [2, 2, 0], [0, 2, 0]):
            single = [last_told(*MADE, goes(2 ** i, row))[0] for i in range(3)]
            for s in range(8):
                together = 0
                for i in range(3):
                    together |= single[i] if s // 2 ** i % 2 else 0
                self.assertEqual(last_told(*MADE, goes(s, row)), [together])

    def test_no_such_table(self):
        self.assertEqual(last_told(begin(2), goes(1, [0])), NO_SUCH)
        for wrong in WRONG_NUMBERS:
            for row in ([wrong], [1, wrong], [wrong, 1], [0] * 39 + [wrong], [wrong] * 40):
                self.assertEqual(last_told(*MADE, goes(0, row)), NO_SUCH)

    def test_no_set(self):
        for n in (1, 2, 3):
            for s in (2 ** n, 2 ** n + 1, 65536, LARGEST - 1, LARGEST):
                made = [begin(n), table([1] * n)]
                self.assertEqual(last_told(*made, goes(s, [])), NOT_AS_TOLD)
                self.assertEqual(last_told(*made, goes(s, [0] * 40)), NOT_AS_TOLD)
                self.assertEqual(last_told(begin(n), goes(s, [])), NOT_AS_TOLD)
            self.assertEqual(last_told(begin(n), goes(2 ** n - 1, [])), [2 ** n - 1])

    def test_no_such_table_ahead_of_no_set(self):
        self.assertEqual(last_told(*MADE, goes(8, [3])), NO_SUCH)
        self.assertEqual(last_told(*MADE, goes(LARGEST, [0] * 39 + [LARGEST_IN_ROW])), NO_SUCH)
        self.assertEqual(last_told(begin(1), goes(2, [0])), NO_SUCH)


class Same(unittest.TestCase):
    def test_whole_list(self):
        self.assertEqual(answers([0, 2, 1, 2, 2, 1, 1, 2, 1, 0, 8, 2, 0, 0, 0, 8, 2, 0, 1, 2, 1, 0, 8, 1, 1, 2, 1, 1]),
                         [1, 0, 1, 0, 1, 1, 1, 1, 1, 0, 1, 1])

    def test_no_tables_in_the_rows(self):
        self.assertEqual(last_told(begin(2), same([], [])), [1])
        self.assertEqual(told(*MADE, same([], []), same([], [0]), same([0], []), same([], [0, 0, 0]))[4:],
                         [[1], [0], [0], [1]])

    def test_the_same_row(self):
        for row in ([0], [1], [2], [2, 0, 0, 2]):
            self.assertEqual(last_told(*MADE, same(row, row)), [1])

    def test_other_rows_of_which_the_same_comes(self):
        self.assertEqual(told(*MADE, same([2, 2], [2, 2, 2]), same([1, 0], [2, 1]), same([0], [0, 0, 0, 0]))[4:],
                         [[1], [1], [1]])

    def test_not_the_same(self):
        self.assertEqual(told(*MADE, same([0, 2], [2, 0]), same([2], [2, 2]), same([0], [1]))[4:], [[0], [0], [0]])

    def test_differs_in_one_cell(self):
        for i in range(3):
            row = [2, 4, 1]
            row[i] ^= 4
            self.assertEqual(last_told(begin(3), table([2, 4, 1]), table(row), same([0], [1])), [0])

    def test_a_table_told_twice(self):
        self.assertEqual(told(begin(2), table([3, 1]), table([3, 1]), same([0], [1]), same([0, 1], [1, 0]))[3:],
                         [[1], [1]])

    def test_one_place(self):
        self.assertEqual(told(begin(1), table([1]), table([0]), same([0], []), same([0], [1]), same([0, 1], [1]))[3:],
                         [[1], [0], [1]])

    def test_longest_rows(self):
        self.assertEqual(told(*MADE, same([0] * 40, [0] * 40), same([0] * 40, [0]), same([0] * 40, [0] * 39))[4:],
                         [[1], [1], [0]])
        self.assertEqual(last_told(*MADE, same([0] * 39 + [2], [2] + [0] * 39)), [1])
        self.assertEqual(last_told(*MADE, same([0] * 38 + [2, 0], [2, 0] + [0] * 38)), [0])

    def test_no_such_table(self):
        self.assertEqual(told(begin(2), same([0], []), same([], [0]), same([0], [0])), [[0]] + [NO_SUCH] * 3)
        for wrong in WRONG_NUMBERS:
            for row in ([wrong], [0, wrong], [wrong, 0], [0] * 39 + [wrong], [wrong] * 40):
                self.assertEqual(last_told(*MADE, same(row, [0])), NO_SUCH)
                self.assertEqual(last_told(*MADE, same([0], row)), NO_SUCH)
                self.assertEqual(last_told(*MADE, same(row, row)), NO_SUCH)


class Commute(unittest.TestCase):
    def test_whole_list(self):
        self.assertEqual(answers([0, 2, 19, 0, 0, 1, 2, 2, 1, 1, 2, 1, 0, 1, 2, 3, 3,
                                  19, 0, 1, 19, 0, 2, 19, 1, 1, 19, 1, 3]),
                         [1, 0, 1, -2, 1, 0, 1, 1, 1, 2, 1, 0, 1, 1, 1, 1, 1, -2])

    def test_either_order_told(self):
        # Behind nothing and ahead of it comes nothing; going round and table 2 differ by which is first.
        for k, j, alike in ((0, 1, 1), (1, 2, 1), (0, 2, 0)):
            self.assertEqual(told(*MADE, commute(k, j), commute(j, k))[4:], [[alike], [alike]])

    def test_with_itself(self):
        for k in range(3):
            self.assertEqual(last_told(*MADE, commute(k, k)), [1])

    def test_each_at_its_place_with_all(self):
        made = [begin(3), table([1, 2, 4]), table([2, 4, 1]), table([3, 4, 0])]
        self.assertEqual(told(*made, commute(0, 1), commute(0, 2), commute(1, 2))[4:], [[1], [1], [0]])

    def test_a_table_told_twice(self):
        self.assertEqual(last_told(begin(2), table([3, 1]), table([3, 1]), commute(0, 1)), [1])

    def test_one_place(self):
        made = [begin(1), table([0]), table([1])]
        self.assertEqual(told(*made, commute(0, 1), commute(1, 0), commute(1, 1))[3:], [[1]] * 3)

    def test_differs_from_one_place_alone(self):
        # 0 and 1 swapped, then 1 and 2; or the other way round.
        self.assertEqual(last_told(begin(3), table([2, 1, 4]), table([1, 4, 2]), commute(0, 1)), [0])
        self.assertEqual(last_told(begin(3), table([1, 2, 0]), table([1, 2, 6]), commute(0, 1)), [0])
        self.assertEqual(last_told(begin(3), table([0, 2, 4]), table([3, 2, 4]), commute(0, 1)), [0])

    def test_as_same_tells(self):
        for k in range(3):
            for j in range(3):
                self.assertEqual(last_told(*MADE, commute(k, j)), last_told(*MADE, same([k, j], [j, k])))

    def test_no_such_table(self):
        for n in (1, 2, 3):
            self.assertEqual(told(begin(n), commute(0, 0), commute(0, 1))[1:], [NO_SUCH] * 2)
        for wrong in (3, 4, 65536, LARGEST - 1, LARGEST):
            for k, j in ((wrong, 0), (0, wrong), (wrong, wrong), (2, wrong), (wrong, 2)):
                self.assertEqual(last_told(*MADE, commute(k, j)), NO_SUCH)
        self.assertEqual(last_told(*MADE, drop(0), commute(1, 2)), NO_SUCH)

    def test_follows_each_change(self):
        made = [begin(2), table([2, 1]), table([1, 0])]
        asked = commute(0, 1)
        self.assertEqual(told(*made, asked, cell(1, 1, 1), asked, back(), asked, turn(), asked, drop(1), asked, back(),
                              asked, cell(1, 0, 0), asked)[3:],
                         [[0], [2], [1], [2], [0], [2], [0], [1], [-2], [3], [0], [0], [1]])


class LookingChangesNothing(UnchangedTest):
    def test_answered_and_refused(self):
        for call in (show(0), show(3), word([0, 1, 2]), word([3]), goes(5, [0, 2]), goes(5, [3]), goes(8, [0]),
                     same([0, 2], [2, 0]), same([0], [3]), same([], []), commute(0, 2), commute(1, 2), commute(0, 3)):
            self.check_nothing_changed(MADE, call)


if __name__ == "__main__":
    unittest.main()
