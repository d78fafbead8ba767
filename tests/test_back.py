"""Promise 1, back and state; and f: taken back, all is as it was."""

import unittest

from tests.helper import (
    LARGEST, LARGEST_IN_ROW, NOT_AS_TOLD, NOT_BEGUN, NO_CHANGE, NO_SUCH, Numbers, TOO_MANY, back, begin, cell, come,
    commute, count, drop, full, goes, last_told, lead, look_around, look_at_tables, look_behind, met, nothing, nth,
    round_of, same, sets, show, state, still, table, told, turn, word)
from yesnotables.tables import answers

MADE = [begin(3), table([6, 0, 1]), table([2, 4, 1])]

CHANGES = [
    table([1, 3, 7]), table([0, 0, 0]), table([6, 0, 1]), cell(0, 0, 0), cell(1, 2, 1), cell(0, 2, 0), drop(0), drop(1),
    turn(),
]

# None of these is a change: looks that are answered, and calls that are refused.
NO_CHANGES = [
    show(0), word([0, 1]), goes(5, [1]), same([0], [1]), count(), nth(0), come([2, 4, 1]), nothing(), full(), met(),
    sets(1), lead(1, 2), round_of(0), still(), commute(0, 1), state(), begin(0), begin(4), begin(LARGEST), table([]),
    table([1, 2]), table([1, 2, 8]), table([LARGEST_IN_ROW] * 6), cell(2, 0, 0), cell(0, 3, 0), cell(0, 0, 3), drop(2),
    drop(LARGEST), show(2), word([2]), goes(8, []), goes(1, [2]), same([2], []), nth(LARGEST), come([]),
    come([8, 0, 0]), come([7, 7, 0]), sets(8), lead(8, 0), lead(0, 8), lead(0, 1), round_of(2), commute(0, 2),
]


class State(unittest.TestCase):
    def test_whole_list(self):
        self.assertEqual(answers([21, 0, 2, 21, 1, 2, 2, 1, 21, 4, 21, 3, 0, 21]),
                         [1, -11, 1, 0, 3, 2, 0, 0, 1, 0, 3, 2, 1, 1, 1, 1, 3, 2, 1, 2, 1, 0, 3, 2, 0, 3])

    def test_how_many_places(self):
        for n in (1, 2, 3):
            self.assertEqual(told(begin(n), state()), [[0], [n, 0, 0]])

    def test_how_many_tables(self):
        tables = [table([1]), table([0]), table([1])]
        for size in range(4):
            self.assertEqual(last_told(begin(1), *tables[:size], state()), [1, size, size])
        self.assertEqual(last_told(begin(1), *tables, drop(0), state()), [1, 2, 4])

    def test_each_change_counts(self):
        self.assertEqual(last_told(*MADE, state()), [3, 2, 2])
        for change in CHANGES:
            self.assertEqual(last_told(*MADE, change, state())[2], 3)

    def test_a_turn_of_no_tables_counts(self):
        self.assertEqual(told(begin(2), turn(), state(), back(), state()), [[0], [0], [2, 0, 1], [0], [2, 0, 0]])

    def test_no_more_than_10(self):
        for size in (9, 10, 11, 12, 25, 254):
            self.assertEqual(last_told(begin(1), *[turn()] * size, state()), [1, 0, min(size, 10)])

    def test_what_is_no_change_does_not_count(self):
        for call in NO_CHANGES:
            self.assertEqual(last_told(*MADE, call, state()), [3, 2, 2])
        self.assertEqual(last_told(*MADE, *NO_CHANGES, state()), [3, 2, 2])

    def test_too_many_does_not_count(self):
        self.assertEqual(told(begin(1), *[table([1])] * 4, state())[4:], [TOO_MANY, [1, 3, 3]])

    def test_follows_back(self):
        self.assertEqual(told(*MADE, back(), state(), back(), state(), back(), state())[3:],
                         [[1], [3, 1, 1], [0], [3, 0, 0], NO_CHANGE, [3, 0, 0]])

    def test_begin_again(self):
        self.assertEqual(told(*MADE, begin(2), state(), begin(4), state())[3:],
                         [[0], [2, 0, 0], NOT_AS_TOLD, [2, 0, 0]])


class Back(unittest.TestCase):
    def check_taken_back(self, made, change):
        """Behind the change and a back all is seen as ahead of it, looked at or not."""
        looks = look_around()
        before = told(*made, *looks)[len(made):]
        self.assertEqual(told(*made, change, back(), *looks)[len(made) + 2:], before)
        self.assertEqual(told(*made, *looks, change, *looks, back(), *looks)[-len(looks):], before)
        behind = look_behind()
        self.assertEqual(told(*made, change, back(), *behind)[len(made) + 2:], told(*made, *behind)[len(made):])

    def test_whole_list(self):
        self.assertEqual(answers([20, 0, 2, 20, 1, 2, 2, 1, 2, 0, 0, 0, 20, 5, 0, 20, 5, 0, 20]),
                         [1, -11, 1, 0, 1, -6, 1, 0, 1, 3, 1, 1, 3, 2, 2, 1, 1, 0, 1, -2, 1, -6])

    def test_each_change(self):
        for change in CHANGES:
            self.check_taken_back(MADE, change)

    def test_first_change(self):
        for n in (1, 2, 3):
            self.check_taken_back([begin(n)], table([1] * n))
            self.check_taken_back([begin(n)], turn())

    def test_one_place(self):
        made = [begin(1), table([1]), table([0])]
        for change in (table([0]), cell(0, 0, 0), cell(1, 0, 0), drop(0), drop(1), turn()):
            self.check_taken_back(made, change)

    def test_three_tables(self):
        made = [begin(2), table([2, 1]), table([1, 0]), table([3, 2])]
        for change in [cell(k, i, j) for k in range(3) for i in range(2) for j in range(2)]:
            self.check_taken_back(made, change)
        for change in (drop(0), drop(1), drop(2), turn()):
            self.check_taken_back(made, change)

    def test_a_table_is_gone_again(self):
        self.assertEqual(told(begin(1), table([1]), back(), show(0), count(), table([0]), show(0)),
                         [[0], [0], [0], NO_SUCH, [0], [0], [1, 0]])

    def test_a_dropped_table_is_there_again_at_its_place(self):
        made = [begin(2), table([0, 1]), table([1, 2]), table([2, 3])]
        for k in range(3):
            self.assertEqual(told(*made, drop(k), back(), show(0), show(1), show(2))[4:],
                             [[2], [3], [2, 0, 1], [2, 1, 2], [2, 2, 3]])

    def test_turn_is_mirrored_again(self):
        self.assertEqual(told(begin(2), table([3, 0]), turn(), show(0), back(), show(0))[3:],
                         [[2, 1, 1], [1], [2, 3, 0]])

    def test_how_many_can_still_be(self):
        for size in (1, 2, 9, 10):
            answered = told(begin(1), *[turn()] * size, *[back()] * (size + 1))
            self.assertEqual(answered[1 + size:], [[left] for left in range(size - 1, -1, -1)] + [NO_CHANGE])

    def test_no_more_than_10(self):
        for size in (11, 12, 20, 100):
            answered = told(begin(1), *[turn()] * size, *[back()] * 12)
            self.assertEqual(answered[1 + size:], [[left] for left in range(9, -1, -1)] + [NO_CHANGE] * 2)

    def test_10_back_is_as_it_was_10_ago(self):
        changes = [table([2, 1]), table([1, 0]), cell(0, 0, 0), turn(), drop(1), cell(0, 1, 1), table([3, 3]), turn(),
                   table([0, 1]), cell(2, 0, 1), drop(0), cell(1, 0, 0), turn(), drop(1), table([1, 1])]
        looks = look_at_tables()
        for size in range(len(changes) + 1):
            for backs in range(min(size, 10) + 1):
                answered = told(begin(2), *changes[:size], *[back()] * backs, *looks)[1 + size + backs:]
                self.assertEqual(answered, told(begin(2), *changes[:size - backs], *looks)[1 + size - backs:])
        behind = told(begin(2), *changes, *[back()] * 10, back(), *looks)
        self.assertEqual(behind[1 + len(changes) + 9:1 + len(changes) + 11], [[0], NO_CHANGE])
        self.assertEqual(behind[1 + len(changes) + 11:], told(begin(2), *changes[:5], *looks)[6:])

    def test_what_is_older_than_10_stays_gone(self):
        # 12 changes, 4 taken back, 2 more: 8 of the kept ones can be taken back, and no older one.
        answered = told(begin(1), *[turn()] * 12, *[back()] * 4, turn(), turn(), state(), *[back()] * 9)
        self.assertEqual(answered[13:], [[9], [8], [7], [6], [0], [0], [1, 0, 8]] +
                         [[left] for left in range(7, -1, -1)] + [NO_CHANGE])

    def test_a_change_behind_back(self):
        self.assertEqual(told(*MADE, drop(0), back(), cell(0, 0, 0), show(0), back(), show(0), back(), show(1))[3:],
                         [[1], [2], [7], [3, 7, 0, 1], [2], [3, 6, 0, 1], [1], NO_SUCH])

    def test_back_is_no_change(self):
        # Taken back twice it goes on to what was earlier, not to and fro.
        self.assertEqual(told(begin(1), table([1]), cell(0, 0, 0), back(), back(), show(0), back())[3:],
                         [[1], [0], NO_SUCH, NO_CHANGE])

    def test_no_change(self):
        looks = look_around()
        for n in (1, 2, 3):
            self.assertEqual(told(begin(n), back(), back(), *looks)[1:], [NO_CHANGE] * 2 + told(begin(n), *looks)[1:])
        self.assertEqual(told(*MADE, back(), back(), back(), *looks)[5:], [NO_CHANGE] + told(begin(3), *looks)[1:])

    def test_what_is_no_change_is_not_taken_back(self):
        behind = look_behind()
        before = told(*MADE, *behind)[3:]
        for call in NO_CHANGES:
            self.assertEqual(told(*MADE, call, *behind)[4:], before)
        self.assertEqual(told(*MADE, *NO_CHANGES, *behind)[3 + len(NO_CHANGES):], before)

    def test_refused_is_not_taken_back(self):
        self.assertEqual(told(begin(1), *[table([1])] * 4, back(), state())[4:], [TOO_MANY, [2], [1, 2, 2]])
        self.assertEqual(told(begin(2), table([0]), drop(0), cell(0, 0, 0), back())[1:],
                         [NOT_AS_TOLD, NO_SUCH, NO_SUCH, NO_CHANGE])

    def test_begin_again_leaves_none(self):
        for n in (1, 2, 3):
            self.assertEqual(told(*MADE, begin(n), back(), state())[3:], [[0], NO_CHANGE, [n, 0, 0]])
            self.assertEqual(told(*MADE, begin(n), turn(), back(), back())[3:], [[0], [0], [0], NO_CHANGE])

    def test_begin_refused_leaves_all(self):
        for n in (0, 4, LARGEST):
            self.assertEqual(told(*MADE, begin(n), back(), show(0), show(1))[3:],
                             [NOT_AS_TOLD, [1], [3, 6, 0, 1], NO_SUCH])

    def test_begin_refused_at_first(self):
        self.assertEqual(told(begin(0), turn(), back(), state()), [NOT_AS_TOLD] + [NOT_BEGUN] * 3)

    def test_what_can_come_follows(self):
        self.assertEqual(told(begin(2), table([2, 1]), count(), table([1, 0]), count(), nth(6), nothing(), back(),
                              count(), nth(2), nothing(), sets(1), back(), count(), sets(1))[2:],
                         [[2], [1], [7], [3, 1, 0, 1, 0, 0], [3, 1, 0, 1, 0, 0], [1],
                          [2], [-2], [-33], [2, 1, 2], [0], [0], [1, 1]])

    def test_long_lists_of_changes(self):
        for seed in range(20):
            numbers = Numbers(seed)
            changes = [CHANGES[numbers.below(len(CHANGES))] for time in range(60)]
            done = [change for change, answered in zip(changes, told(begin(3), *changes)[1:]) if answered[0] >= 0]
            answered = told(begin(3), *changes, *look_behind())[61:]
            for backs in range(min(len(done), 10)):
                earlier = told(begin(3), *done[:len(done) - backs - 1], show(0), show(1), show(2))[-3:]
                self.assertEqual(answered[2 + 5 * backs:5 + 5 * backs], earlier)

    def test_256_calls(self):
        answered = told(begin(1), table([0]), *[cell(0, 0, 0), back()] * 127)
        self.assertEqual(answered, [[0], [0]] + [[1], [1]] * 127)
        answered = told(begin(3), *[turn()] * 127, *[back()] * 128)
        self.assertEqual(answered, [[0]] * 128 + [[left] for left in range(9, -1, -1)] + [NO_CHANGE] * 118)


if __name__ == "__main__":
    unittest.main()
