"""Promise 5: sets, lead, round."""

import itertools
import unittest

from tests.helper import (
    LARGEST, NOT_AS_TOLD, NO_SUCH, THERE_IS_NONE, UnchangedTest, back, begin, cell, drop, goes, last_told, lead,
    round_of, sets, show, table, told, turn, word)
from yesnotables.tables import answers

# Table 0 goes round by three places; by table 1 one may go from 0 to 0 and 1, from 1 to 2.
MADE = [begin(3), table([2, 4, 1]), table([3, 4, 0])]

# From all places one comes to the empty set only by 7 tables: all 8 sets lie on the way.
LONG_WAY = [begin(3), table([2, 6, 0]), table([4, 1, 3])]

WRONG_SETS = {1: (2, 3, 8, LARGEST), 2: (4, 5, 65536, LARGEST), 3: (8, 9, 65535, LARGEST - 1, LARGEST)}


class Sets(UnchangedTest):
    def test_whole_list(self):
        self.assertEqual(answers([0, 2, 15, 2, 1, 2, 2, 1, 15, 2, 15, 3, 15, 0, 15, 4, 1, 2, 1, 0, 15, 2]),
                         [1, 0, 2, 1, 2, 1, 0, 3, 2, 1, 2, 2, 1, 3, 2, 1, 0, 1, -22, 1, 1, 4, 3, 0, 1, 2])

    def test_no_tables(self):
        for n in (1, 2, 3):
            for s in range(2 ** n):
                self.assertEqual(told(begin(n), sets(s)), [[0], [1, s]])

    def test_itself_by_none(self):
        # No row leads back to 1, yet it is told.
        self.assertEqual(last_told(begin(2), table([2, 2]), sets(1)), [2, 1, 2])
        self.assertEqual(last_told(begin(3), table([0, 0, 0]), sets(7)), [2, 0, 7])

    def test_itself_once(self):
        self.assertEqual(last_told(begin(3), table([2, 4, 1]), sets(1)), [3, 1, 2, 4])
        self.assertEqual(last_told(begin(3), table([1, 2, 4]), sets(5)), [1, 5])

    def test_rising(self):
        self.assertEqual(last_told(begin(3), table([2, 4, 1]), sets(4)), [3, 1, 2, 4])
        self.assertEqual(last_told(begin(3), table([4, 1, 2]), sets(6)), [3, 3, 5, 6])
        self.assertEqual(last_told(*LONG_WAY, sets(7)), [8, 0, 1, 2, 3, 4, 5, 6, 7])

    def test_all_its_places_together(self):
        # From 0 and 1 together one is at both again, never at one alone.
        self.assertEqual(last_told(begin(2), table([2, 1]), sets(3)), [1, 3])
        self.assertEqual(last_told(begin(3), table([2, 4, 1]), sets(3)), [3, 3, 5, 6])

    def test_the_empty_set(self):
        for made in (MADE, LONG_WAY, [begin(2), table([3, 3])], [begin(1), table([1]), table([0])]):
            self.assertEqual(last_told(*made, sets(0)), [1, 0])

    def test_nothing(self):
        self.assertEqual(told(begin(2), table([0, 0]), sets(0), sets(1), sets(2), sets(3))[2:],
                         [[1, 0], [2, 0, 1], [2, 0, 2], [2, 0, 3]])

    def test_one_place(self):
        self.assertEqual(told(begin(1), table([1]), sets(0), sets(1))[2:], [[1, 0], [1, 1]])
        self.assertEqual(told(begin(1), table([0]), sets(0), sets(1))[2:], [[1, 0], [2, 0, 1]])
        self.assertEqual(told(begin(1), table([1]), table([0]), sets(0), sets(1))[3:], [[1, 0], [2, 0, 1]])

    def test_a_table_told_twice(self):
        self.assertEqual(last_told(begin(3), table([2, 4, 1]), table([2, 4, 1]), sets(1)), [3, 1, 2, 4])

    def test_by_each_table(self):
        self.assertEqual(last_told(begin(3), table([2, 1, 4]), table([1, 4, 2]), sets(1)), [3, 1, 2, 4])
        self.assertEqual(last_told(begin(3), table([1, 2, 4]), table([1, 2, 4]), table([7, 2, 4]), sets(1)), [2, 1, 7])

    def test_as_goes_tells(self):
        rows = [list(row) for length in range(7) for row in itertools.product(range(2), repeat=length)]
        for s in range(8):
            reached = {answered[0] for answered in told(*MADE, *[goes(s, row) for row in rows])[3:]}
            self.assertEqual(last_told(*MADE, sets(s)), [len(reached)] + sorted(reached))

    def test_not_as_told(self):
        for n, wrong in WRONG_SETS.items():
            for s in wrong:
                self.assertEqual(told(begin(n), sets(s), table([1] * n), sets(s))[1::2], [NOT_AS_TOLD] * 2)

    def test_follows_each_change(self):
        self.assertEqual(told(begin(2), sets(1), table([2, 2]), sets(1), turn(), sets(1), cell(0, 1, 0), sets(1),
                              drop(0), sets(1), back(), back(), back(), sets(1))[1:],
                         [[1, 1], [0], [2, 1, 2], [1], [2, 0, 1], [2], [2, 0, 1], [0], [1, 1], [3], [2], [1],
                          [2, 1, 2]])

    def test_changes_nothing(self):
        for call in (sets(0), sets(5), sets(8), sets(LARGEST)):
            self.check_nothing_changed(MADE, call)


class Lead(UnchangedTest):
    def test_whole_list(self):
        self.assertEqual(answers([0, 2, 16, 2, 2, 1, 2, 2, 1, 1, 2, 1, 0,
                                  16, 2, 1, 16, 2, 0, 16, 1, 3, 16, 4, 0, 16, 0, 4]),
                         [1, 0, 1, 0, 1, 0, 1, 1, 2, 1, 0, 2, 1, 1, 1, -33, 1, -22, 1, -22])

    def test_no_tables(self):
        for n in (1, 2, 3):
            for s in range(2 ** n):
                for u in range(2 ** n):
                    self.assertEqual(last_told(begin(n), lead(s, u)), [0] if s == u else THERE_IS_NONE)

    def test_to_itself_by_no_table(self):
        for made in (MADE, LONG_WAY, [begin(3), table([1, 2, 4])], [begin(3), table([0, 0, 0])]):
            for s in range(8):
                self.assertEqual(last_told(*made, lead(s, s)), [0])

    def test_the_empty_set(self):
        self.assertEqual(last_told(*MADE, lead(0, 0)), [0])
        for u in range(1, 8):
            self.assertEqual(last_told(*MADE, lead(0, u)), THERE_IS_NONE)
        self.assertEqual(last_told(*MADE, lead(4, 0)), [1, 1])
        self.assertEqual(last_told(*MADE, lead(2, 0)), [2, 0, 1])

    def test_nothing(self):
        made = [begin(2), table([1, 2]), table([0, 0])]
        for s in (1, 2, 3):
            self.assertEqual(last_told(*made, lead(s, 0)), [1, 1])

    def test_one_place(self):
        self.assertEqual(told(begin(1), table([1]), table([0]), lead(1, 0), lead(0, 1), lead(1, 1), lead(0, 0))[3:],
                         [[1, 1], THERE_IS_NONE, [0], [0]])
        self.assertEqual(last_told(begin(1), table([1]), lead(1, 0)), THERE_IS_NONE)

    def test_the_shortest(self):
        self.assertEqual(last_told(begin(3), table([2, 4, 1]), lead(1, 4)), [2, 0, 0])
        self.assertEqual(last_told(begin(3), table([2, 4, 1]), table([4, 1, 2]), lead(1, 4)), [1, 1])
        self.assertEqual(last_told(begin(3), table([2, 4, 1]), table([1, 2, 4]), table([4, 1, 2]), lead(1, 4)), [1, 2])

    def test_of_as_short_ones_the_first(self):
        # From 0 to 2 by way of 1 alone, or by way of 0 and 1: in either order of the tables the first is told.
        self.assertEqual(last_told(begin(3), table([2, 4, 0]), table([3, 4, 0]), lead(1, 4)), [2, 0, 0])
        self.assertEqual(last_told(begin(3), table([3, 4, 0]), table([2, 4, 0]), lead(1, 4)), [2, 1, 0])
        self.assertEqual(last_told(begin(2), table([2, 1]), table([2, 1]), lead(1, 2)), [1, 0])

    def test_a_table_told_twice(self):
        made = [begin(3), table([1, 2, 4]), table([2, 4, 1]), table([2, 4, 1])]
        self.assertEqual(last_told(*made, lead(1, 4)), [2, 1, 1])

    def test_from_the_first_to_the_last(self):
        # The row is used in the order told: by table 1, then by table 0.
        self.assertEqual(told(begin(3), table([1, 4, 0]), table([2, 0, 0]), lead(1, 4), goes(1, [1, 0]))[3:],
                         [[2, 1, 0], [4]])

    def test_longest_way(self):
        self.assertEqual(last_told(*LONG_WAY, lead(7, 0)), [7, 0, 1, 1, 0, 1, 1, 0])

    def test_all_its_places_together(self):
        self.assertEqual(told(begin(2), table([2, 1]), lead(3, 1), lead(3, 2), lead(1, 3), lead(3, 3))[2:],
                         [THERE_IS_NONE] * 3 + [[0]])

    def test_just_the_set(self):
        # One comes from 0 to both places at once, and never to place 1 alone.
        self.assertEqual(told(begin(2), table([3, 2]), lead(1, 3), lead(1, 2), lead(3, 1))[2:],
                         [[1, 0], THERE_IS_NONE, THERE_IS_NONE])

    def test_against_all_rows(self):
        rows = [list(row) for length in range(8) for row in itertools.product(range(2), repeat=length)]
        for made in (MADE, LONG_WAY):
            for s in range(8):
                first = {}
                for at in range(0, len(rows), 200):
                    part = rows[at:at + 200]
                    for row, answered in zip(part, told(*made, *[goes(s, row) for row in part])[3:]):
                        first.setdefault(answered[0], row)
                expected = [[len(first[u])] + first[u] if u in first else THERE_IS_NONE for u in range(8)]
                self.assertEqual(told(*made, *[lead(s, u) for u in range(8)])[3:], expected)

    def test_as_sets_tells(self):
        for s in range(8):
            can = [u for u in range(8) if last_told(*MADE, lead(s, u)) != THERE_IS_NONE]
            self.assertEqual(last_told(*MADE, sets(s)), [len(can)] + can)

    def test_not_as_told(self):
        for n, wrong in WRONG_SETS.items():
            for made in ([begin(n)], [begin(n), table([1] * n)]):
                for s in wrong:
                    self.assertEqual(told(*made, lead(s, 0), lead(0, s), lead(1, s), lead(s, s))[len(made):],
                                     [NOT_AS_TOLD] * 4)

    def test_not_as_told_ahead_of_there_is_none(self):
        self.assertEqual(told(begin(2), lead(0, 4), lead(4, 0), lead(0, 3))[1:], [NOT_AS_TOLD] * 2 + [THERE_IS_NONE])
        self.assertEqual(last_told(begin(2), lead(4, 4)), NOT_AS_TOLD)

    def test_follows_each_change(self):
        self.assertEqual(told(begin(2), lead(1, 2), table([2, 2]), lead(1, 2), turn(), lead(1, 2), back(), lead(1, 2),
                              cell(0, 0, 1), lead(1, 2), back(), drop(0), lead(1, 2))[1:],
                         [[-33], [0], [1, 0], [1], [-33], [1], [1, 0], [0], [-33], [1], [0], [-33]])

    def test_changes_nothing(self):
        for call in (lead(0, 0), lead(1, 4), lead(0, 1), lead(8, 0), lead(0, 8)):
            self.check_nothing_changed(MADE, call)


class Round(UnchangedTest):
    def check_powers(self, row, power, steps):
        """Tells the same by word: the powers ahead of it never come again, this one by so many steps, not by fewer."""
        words = [word([0] * exponent) for exponent in range(1, power + steps + 14)]
        powers = [answered[1:] for answered in told(begin(3), table(row), *words)[2:]]
        for exponent in range(1, power):
            self.assertEqual(powers.count(powers[exponent - 1]), 1)
        self.assertEqual(powers[power:].index(powers[power - 1]) + 1, steps)

    def test_whole_list(self):
        self.assertEqual(answers([0, 3, 17, 0, 1, 3, 2, 4, 1, 17, 0, 1, 3, 2, 4, 0, 17, 1, 17, 2]),
                         [1, 0, 1, -2, 1, 0, 2, 1, 3, 1, 1, 2, 3, 1, 1, -2])

    def test_from_the_first_power(self):
        for row in ([1, 2, 4], [0, 0, 0], [7, 7, 7], [1, 1, 1], [3, 3, 4]):
            self.assertEqual(last_told(begin(3), table(row), round_of(0)), [1, 1])
        self.assertEqual(last_told(begin(3), table([2, 1, 4]), round_of(0)), [1, 2])
        self.assertEqual(last_told(begin(3), table([0, 4, 2]), round_of(0)), [1, 2])
        self.assertEqual(last_told(begin(3), table([2, 4, 1]), round_of(0)), [1, 3])
        self.assertEqual(last_told(begin(2), table([2, 1]), round_of(0)), [1, 2])

    def test_from_a_later_power(self):
        self.assertEqual(last_told(begin(2), table([2, 0]), round_of(0)), [2, 1])
        self.assertEqual(last_told(begin(2), table([3, 1]), round_of(0)), [2, 1])
        self.assertEqual(last_told(begin(3), table([2, 4, 0]), round_of(0)), [3, 1])
        self.assertEqual(last_told(begin(3), table([1, 4, 3]), round_of(0)), [2, 2])
        self.assertEqual(last_told(begin(3), table([2, 4, 5]), round_of(0)), [4, 1])
        self.assertEqual(last_told(begin(3), table([2, 4, 3]), round_of(0)), [5, 1])

    def test_power_0_is_not_asked_for(self):
        # Each at its place is power 0, and power 3: the least from 1 on that comes again is 1.
        self.assertEqual(last_told(begin(2), table([1, 2]), round_of(0)), [1, 1])
        self.assertEqual(told(begin(3), table([2, 4, 1]), word([0, 0, 0]), round_of(0))[2:], [[3, 1, 2, 4], [1, 3]])

    def test_one_place(self):
        self.assertEqual(told(begin(1), table([0]), table([1]), round_of(0), round_of(1))[3:], [[1, 1], [1, 1]])

    def test_each_table(self):
        made = [begin(3), table([2, 4, 3]), table([2, 4, 1]), table([0, 0, 0])]
        self.assertEqual(told(*made, round_of(0), round_of(1), round_of(2))[4:], [[5, 1], [1, 3], [1, 1]])

    def test_a_table_told_twice(self):
        self.assertEqual(told(begin(2), table([2, 0]), table([2, 0]), round_of(0), round_of(1))[3:], [[2, 1]] * 2)

    def test_just_as_told(self):
        for row in itertools.product(range(8), repeat=3):
            power, steps = last_told(begin(3), table(row), round_of(0))
            self.check_powers(row, power, steps)

    def test_no_such_table(self):
        for n in (1, 2, 3):
            for k in (0, 1, LARGEST):
                self.assertEqual(last_told(begin(n), round_of(k)), NO_SUCH)
        for k in (2, 3, 65536, LARGEST - 1, LARGEST):
            self.assertEqual(last_told(*MADE, round_of(k)), NO_SUCH)
        self.assertEqual(last_told(*MADE, drop(0), round_of(1)), NO_SUCH)

    def test_follows_each_change(self):
        self.assertEqual(told(begin(3), table([2, 4, 3]), round_of(0), cell(0, 2, 1), round_of(0), back(), round_of(0),
                              turn(), round_of(0), table([2, 4, 0]), drop(0), round_of(0))[1:],
                         [[0], [5, 1], [1], [1, 3], [1], [5, 1], [1], [5, 1], [1], [1], [3, 1]])

    def test_changes_nothing(self):
        for call in (round_of(0), round_of(1), round_of(2), round_of(LARGEST)):
            self.check_nothing_changed(MADE, call)


class Size(unittest.TestCase):
    def test_256_calls(self):
        answered = told(*LONG_WAY, *[lead(7, 0), sets(7), round_of(1), show(0)] * 63)
        self.assertEqual(answered[3:], [[7, 0, 1, 1, 0, 1, 1, 0], [8] + list(range(8)), answered[5], [3, 2, 6, 0]] * 63)


if __name__ == "__main__":
    unittest.main()
