"""How calls are handed in and answers given back, whatever the calls."""

import unittest

from tests.helper import (
    LARGEST, LARGEST_IN_ROW, UnchangedTest, back, begin, cell, come, commute, count, drop, full, goes, joined, lead,
    look_around, look_behind, met, nothing, nth, round_of, same, sets, show, state, still, table, told, turn, word)
from yesnotables.tables import answers

ONE_OF_EACH = [
    begin(2), table([2, 1]), table([1, 0]), table([3]), cell(1, 1, 1), show(1), turn(), word([0, 1]), goes(3, [1, 1]),
    goes(4, [1]), same([0, 0], []), count(), nth(0), nth(99), drop(0), drop(7), begin(9), show(0), back(), come([1, 2]),
    nothing(), cell(1, 0, 0), nothing(), full(), met(), sets(2), lead(2, 1), round_of(1), still(), commute(0, 1),
    state(), lead(0, 1),
]

REFUSED = [
    begin(0), begin(4), begin(LARGEST), table([]), table([1]), table([1, 2, 1]), table([4, 0]),
    table([LARGEST_IN_ROW] * 6), cell(LARGEST, 0, 0), cell(0, LARGEST, 0), cell(0, 0, LARGEST), cell(3, 2, 2),
    drop(3), drop(LARGEST), show(3), show(LARGEST), word([LARGEST_IN_ROW] * 40), goes(LARGEST, []),
    goes(LARGEST, [LARGEST_IN_ROW] * 40), same([0], [LARGEST_IN_ROW] * 40), same([LARGEST_IN_ROW] * 40, [0]),
    nth(LARGEST), come([]), come([1]), come([0, 4]), come([LARGEST_IN_ROW] * 6), sets(4), sets(LARGEST), lead(4, 0),
    lead(0, 4), lead(LARGEST, LARGEST), lead(0, 3), round_of(3), round_of(LARGEST), commute(0, 3), commute(3, 0),
    commute(LARGEST, LARGEST),
]


class Unchanging(list):
    """A list that fails as soon as one would change it, were it only for a while."""

    def refuse(self, *handed):
        raise AssertionError("the list that was handed in is being changed")

    __setitem__ = __delitem__ = __iadd__ = __imul__ = refuse
    append = clear = extend = insert = pop = remove = reverse = sort = refuse


class HandedIn(unittest.TestCase):
    def test_stays_as_it_was(self):
        for calls in (joined(ONE_OF_EACH), joined([begin(3)] + REFUSED), [9], [0, 3]):
            kept = list(calls)
            answers(calls)
            self.assertEqual(calls, kept)

    def test_is_not_changed_for_a_while_either(self):
        calls = joined(ONE_OF_EACH)
        self.assertEqual(answers(Unchanging(calls)), answers(calls))

    def test_answers_are_a_list_of_their_own(self):
        calls = joined(ONE_OF_EACH)
        first = answers(calls)
        kept = list(first)
        first.append(5)
        first[0] = 77
        self.assertEqual(calls, joined(ONE_OF_EACH))
        self.assertEqual(answers(calls), kept)


class NothingKept(unittest.TestCase):
    def test_the_next_is_not_begun(self):
        self.assertEqual(answers([0, 2, 1, 2, 2, 1, 9]), [1, 0, 1, 0, 1, 2])
        self.assertEqual(answers([9]), [1, -11])
        self.assertEqual(answers([0, 2, 9]), [1, 0, 1, 0])

    def test_the_same_again(self):
        calls = joined(ONE_OF_EACH)
        first = answers(calls)
        for other in ([begin(3), table([2, 4, 1]), count()], [begin(1)], [count()], REFUSED):
            told(*other)
            self.assertEqual(answers(calls), first)

    def test_no_change_of_another_time_is_taken_back(self):
        told(begin(2), table([2, 1]), turn())
        self.assertEqual(answers([0, 2, 20, 21]), [1, 0, 1, -6, 3, 2, 0, 0])
        self.assertEqual(answers([20]), [1, -11])


class GivenBack(unittest.TestCase):
    def test_whole_list(self):
        self.assertEqual(answers(joined(ONE_OF_EACH)), [
            1, 0,  # begin
            1, 0, 1, 1, 1, -22,  # table
            1, 2, 3, 2, 1, 2,  # cell, show
            1, 2, 3, 2, 2, 1,  # turn, word
            1, 3, 1, -22,  # goes
            1, 1, 1, 2,  # same, count
            4, 1, 0, 2, 1, 1, -2,  # nth
            1, 1, 1, -2,  # drop
            1, -22, 3, 2, 1, 2,  # begin refused, show
            1, 4, 4, 1, 1, 1, 2, 1, -33,  # back, come, nothing
            1, 0, 6, 3, 1, 0, 1, 0, 0,  # cell, nothing
            1, -33, 1, -33, 4, 3, 0, 1, 2,  # full, met, sets
            2, 1, 0, 2, 1, 1, 1, 4, 1, 0,  # lead, round, still, commute
            3, 2, 2, 5, 1, -33,  # state, lead
        ])

    def test_how_many_numbers_of_each(self):
        made = [begin(3), table([2, 4, 3]), table([1, 1, 1])]
        for call, size in (
                (begin(1), 1), (table([0, 0, 0]), 1), (cell(0, 0, 0), 1), (drop(0), 1), (turn(), 1), (show(0), 4),
                (word([0, 1, 0]), 4), (goes(1, [0]), 1), (same([0], [1]), 1), (count(), 1), (nth(0), 5), (nth(2), 6),
                (come([1, 1, 1]), 5), (come([7, 7, 7]), 9), (full(), 9), (met(), 5), (sets(0), 2), (sets(1), 7),
                (lead(1, 1), 1), (lead(1, 4), 3), (round_of(0), 2), (still(), 1), (commute(0, 1), 1), (back(), 1),
                (state(), 3)):
            answered = told(*made, call)[3]
            self.assertEqual(len(answered), size, msg=f"call {call}")
            self.assertGreaterEqual(min(answered), 0, msg=f"call {call}")
        self.assertEqual(len(told(*made, table([0, 0, 0]), nothing())[4]), 5)

    def test_is_a_list_of_whole_numbers(self):
        for calls in (ONE_OF_EACH, [begin(1), same([], [])], [begin(2)] + REFUSED, REFUSED, [begin(3)] + look_around()):
            given = answers(joined(calls))
            self.assertIs(type(given), list)
            self.assertEqual({type(number) for number in given}, {int})

    def test_a_refusal_is_its_number_alone(self):
        for answered in told(begin(2), table([1, 1]), *REFUSED)[2:]:
            self.assertEqual(len(answered), 1)
            self.assertIn(answered[0], (-2, -22, -33))

    def test_no_other_number_is_below_0(self):
        for answered in told(begin(3), table([2, 4, 1]), table([0, 0, 7]), *look_around(), *look_behind()):
            self.assertTrue(answered in ([-2], [-6], [-22], [-33]) or min(answered) >= 0)


class RefusedLeavesAll(UnchangedTest):
    def test_each(self):
        made = [begin(2), table([2, 1]), table([1, 0]), table([3, 3])]
        for call in REFUSED:
            self.check_nothing_changed(made, call)

    def test_many_behind_one_another(self):
        made = [begin(2), table([2, 1]), table([1, 0]), table([3, 3])]
        looks = look_around() + look_behind()
        self.assertEqual(told(*made, *REFUSED, *looks)[4 + len(REFUSED):], told(*made, *looks)[4:])


class Size(unittest.TestCase):
    def test_longest_list(self):
        calls = same([LARGEST_IN_ROW] * 40, [LARGEST_IN_ROW] * 40) * 256
        self.assertEqual(len(calls), 21248)
        self.assertEqual(answers(calls), [1, -11] * 256)

    def test_256_calls_with_longest_rows(self):
        made = [begin(3), table([2, 4, 1])]
        answered = told(*made, *[same([0] * 40, [0] * (i % 41)) for i in range(254)])
        self.assertEqual(answered[2:], [[1 if i % 41 % 3 == 1 else 0] for i in range(254)])

    def test_255_calls_with_longest_rows_behind_a_begin(self):
        calls = joined([begin(3)] + [same([LARGEST_IN_ROW] * 40, [0] * 40)] * 255)
        self.assertEqual(answers(calls), [1, 0] + [1, -2] * 255)
        calls = joined([begin(3)] + [goes(LARGEST, [])] * 100 + [come([LARGEST_IN_ROW] * 6)] * 155)
        self.assertEqual(answers(calls), [1, 0] + [1, -22] * 255)

    def test_256_begins(self):
        self.assertEqual(answers([0, 3] * 256), [1, 0] * 256)

    def test_256_changes_with_all_that_can_come(self):
        made = [begin(3), table([2, 4, 1]), table([6, 2, 1]), table([0, 1, 2])]
        answered = told(*made, *[cell(0, 0, 0), count(), cell(0, 0, 0), count()] * 63)
        self.assertEqual(answered[7::4], [[440]] * 63)

    def test_256_turns(self):
        made = [begin(2), table([3, 0])]
        self.assertEqual(told(*made, *[turn()] * 253, show(0))[-1], [2, 1, 1])


if __name__ == "__main__":
    unittest.main()
