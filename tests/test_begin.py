"""Promise 1, begin; and -11 ahead of all else before one that isn't refused."""

import unittest

from tests.helper import (
    LARGEST, LARGEST_IN_ROW, NOT_AS_TOLD, NOT_BEGUN, NO_SUCH, THERE_IS_NONE, UnchangedTest, back, begin, cell, come,
    commute, count, drop, full, goes, joined, last_told, lead, look_around, look_behind, met, nothing, nth, round_of,
    same, sets, show, state, still, table, told, turn, word)
from yesnotables.tables import answers

ALL_OTHERS = [
    table([1]), cell(0, 0, 0), drop(0), turn(), show(0), word([]), goes(1, []), same([], []), count(), nth(0),
    come([1]), nothing(), full(), met(), sets(0), lead(0, 0), round_of(0), still(), commute(0, 0), back(), state(),
]

REFUSED_ANYWAY = [
    table([]), table([1, 2, 4, 1, 2, 4]), table([LARGEST_IN_ROW] * 6), cell(LARGEST, LARGEST, LARGEST), drop(LARGEST),
    show(LARGEST), word([LARGEST_IN_ROW] * 40), goes(LARGEST, [LARGEST_IN_ROW] * 40),
    same([LARGEST_IN_ROW] * 40, [LARGEST_IN_ROW] * 40), nth(LARGEST), come([]), come([LARGEST_IN_ROW] * 6),
    sets(LARGEST), lead(LARGEST, 0), lead(0, LARGEST), lead(LARGEST, LARGEST), round_of(LARGEST),
    commute(LARGEST, LARGEST),
]


class Begin(UnchangedTest):
    def test_whole_list(self):
        self.assertEqual(answers([0, 1]), [1, 0])
        self.assertEqual(answers([0, 2]), [1, 0])
        self.assertEqual(answers([0, 3]), [1, 0])
        self.assertEqual(answers([0, 3, 9, 6, 0]), [1, 0, 1, 0, 4, 3, 1, 2, 4])

    def test_so_many_places(self):
        self.assertEqual(last_told(begin(1), word([])), [1, 1])
        self.assertEqual(last_told(begin(2), word([])), [2, 1, 2])
        self.assertEqual(last_told(begin(3), word([])), [3, 1, 2, 4])

    def test_no_tables(self):
        for n in (1, 2, 3):
            self.assertEqual(told(begin(n), show(0), drop(0), count(), nth(0), turn()),
                             [[0], NO_SUCH, NO_SUCH, [0], NO_SUCH, [0]])
            self.assertEqual(told(begin(n), state(), come([1] * n), nothing(), full(), met(), still(), round_of(0))[1:],
                             [[n, 0, 0]] + [THERE_IS_NONE] * 4 + [[0], NO_SUCH])

    def test_refused(self):
        self.assertEqual(answers([0, 0]), [1, -22])
        for n in (0, 4, 5, 256, 65536, LARGEST - 1, LARGEST):
            self.assertEqual(told(begin(n)), [NOT_AS_TOLD])

    def test_refused_does_not_begin(self):
        for n in (0, 4, LARGEST):
            for call in ALL_OTHERS:
                self.assertEqual(told(begin(n), call), [NOT_AS_TOLD, NOT_BEGUN])

    def test_refused_leaves_all_as_it_was(self):
        made = [begin(2), table([2, 1]), table([1, 0])]
        for n in (0, 4, LARGEST):
            self.check_refused(made, begin(n), NOT_AS_TOLD)

    def test_again_is_as_new(self):
        looks = look_around() + look_behind()
        for n in (1, 2, 3):
            fresh = told(begin(n), *looks)
            for made in ([], [table([7, 0, 1])], [table([2, 4, 1]), table([2, 1, 4]), table([1, 2, 5]), count()]):
                again = told(begin(3), *made, begin(n), *looks)
                self.assertEqual(again[len(made) + 1:], fresh)

    def test_again_forgets_what_could_come(self):
        self.assertEqual(told(begin(2), table([2, 1]), count(), begin(2), count(), table([0, 0]), count()),
                         [[0], [0], [2], [0], [0], [0], [1]])

    def test_again_makes_room_for_tables(self):
        full = [table([1])] * 3
        self.assertEqual(told(begin(1), *full, begin(1), *full),
                         [[0], [0], [1], [2], [0], [0], [1], [2]])

    def test_again_with_other_places(self):
        self.assertEqual(told(begin(3), table([1, 2, 4]), begin(1), table([1, 2, 4]), table([1]), show(0)),
                         [[0], [0], [0], NOT_AS_TOLD, [0], [1, 1]])


class NotBegun(unittest.TestCase):
    def test_whole_list(self):
        self.assertEqual(answers([9]), [1, -11])
        self.assertEqual(answers([9, 0, 2, 9]), [1, -11, 1, 0, 1, 0])

    def test_each_call(self):
        for call in ALL_OTHERS:
            self.assertEqual(answers(call), [1, -11])

    def test_all_calls_in_one_list(self):
        self.assertEqual(answers(joined(ALL_OTHERS)), [1, -11] * len(ALL_OTHERS))

    def test_ahead_of_all_other_refusals(self):
        for call in REFUSED_ANYWAY:
            self.assertEqual(told(call), [NOT_BEGUN])
        self.assertEqual(told(*REFUSED_ANYWAY), [NOT_BEGUN] * len(REFUSED_ANYWAY))

    def test_nothing_of_it_stays(self):
        looks = look_around() + look_behind()
        answered = told(*ALL_OTHERS, begin(1), *looks)
        self.assertEqual(answered[len(ALL_OTHERS):], told(begin(1), *looks))


if __name__ == "__main__":
    unittest.main()
