"""How calls are handed in and answers given back, whatever the calls."""

import unittest

from tests.helper import (
    LARGEST, LARGEST_IN_ROW, begin, cell, count, drop, goes, joined, look_around, nth, same, show, table, told, turn,
    word)
from yesnotables.tables import answers

ONE_OF_EACH = [
    begin(2), table([2, 1]), table([1, 0]), table([3]), cell(1, 1, 1), show(1), turn(), word([0, 1]), goes(3, [1, 1]),
    goes(4, [1]), same([0, 0], []), count(), nth(0), nth(99), drop(0), drop(7), begin(9), show(0),
]

REFUSED = [
    begin(0), begin(4), begin(LARGEST), table([]), table([1]), table([1, 2, 1]), table([4, 0]),
    table([LARGEST_IN_ROW] * 6), cell(LARGEST, 0, 0), cell(0, LARGEST, 0), cell(0, 0, LARGEST), cell(3, 2, 2),
    drop(3), drop(LARGEST), show(3), show(LARGEST), word([LARGEST_IN_ROW] * 40), goes(LARGEST, []),
    goes(LARGEST, [LARGEST_IN_ROW] * 40), same([0], [LARGEST_IN_ROW] * 40), same([LARGEST_IN_ROW] * 40, [0]),
    nth(LARGEST),
]


class Unchanging(list):
    """A list that fails as soon as one would change it, were it only for a while."""

    def refuse(self, *handed):
        raise AssertionError("the list that was handed in is being changed")

    __setitem__ = __delitem__ = __iadd__ = __imul__ = refuse
    append = clear = extend = insert = pop = remove = reverse = sort = refuse


class HandedIn(unittest.TestCase):
    def test_stays_as_it_was(self):
        for calls in (joined(ONE_OF_EACH), joined([begin(3)] + REFUSED), [9], [0, 3]):
            kept = list(calls)
            answers(calls)
            self.assertEqual(calls, kept)

    def test_is_not_changed_for_a_while_either(self):
        calls = joined(ONE_OF_EACH)
        self.assertEqual(answers(Unchanging(calls)), answers(calls))

    def test_answers_are_a_list_of_their_own(self):
        calls = joined(ONE_OF_EACH)
        first = answers(calls)
        kept = list(first)
        first.append(5)
        first[0] = 77
        self.assertEqual(calls, joined(ONE_OF_EACH))
        self.assertEqual(answers(calls), kept)


class NothingKept(unittest.TestCase):
    def test_the_next_is_not_begun(self):
        self.assertEqual(answers([0, 2, 1, 2, 2, 1, 9]), [1, 0, 1, 0, 1, 2])
        self.assertEqual(answers([9]), [1, -11])
        self.assertEqual(answers([0, 2, 9]), [1, 0, 1, 0])

    def test_the_same_again(self):
        calls = joined(ONE_OF_EACH)
        first = answers(calls)
        for other in ([begin(3), table([2, 4, 1]), count()], [begin(1)], [count()], REFUSED):
            told(*other)
            self.assertEqual(answers(calls), first)


class GivenBack(unittest.TestCase):
    def test_whole_list(self):
        self.assertEqual(answers(joined(ONE_OF_EACH)), [
            1, 0,  # begin
            1, 0, 1, 1, 1, -22,  # table
            1, 2, 3, 2, 1, 2,  # cell, show
            1, 2, 3, 2, 2, 1,  # turn, word
            1, 3, 1, -22,  # goes
            1, 1, 1, 2,  # same, count
            4, 1, 0, 2, 1, 1, -2,  # nth
            1, 1, 1, -2,  # drop
            1, -22, 3, 2, 1, 2,  # begin refused, show
        ])

    def test_is_a_list_of_whole_numbers(self):
        for calls in (ONE_OF_EACH, [begin(1), same([], [])], [begin(2)] + REFUSED, REFUSED, [begin(3)] + look_around()):
            given = answers(joined(calls))
            self.assertIs(type(given), list)
            self.assertEqual({type(number) for number in given}, {int})

    def test_a_refusal_is_its_number_alone(self):
        for answered in told(begin(2), table([1, 1]), *REFUSED)[2:]:
            self.assertEqual(len(answered), 1)
            self.assertIn(answered[0], (-2, -22))

    def test_no_other_number_is_below_0(self):
        for answered in told(begin(3), table([2, 4, 1]), table([0, 0, 7]), *look_around()):
            self.assertTrue(answered[0] in (-2,) or min(answered) >= 0)


class RefusedLeavesAll(unittest.TestCase):
    def test_each(self):
        made = [begin(2), table([2, 1]), table([1, 0]), table([3, 3])]
        looks = look_around()
        before = told(*made, *looks)[4:]
        for call in REFUSED:
            self.assertEqual(told(*made, call, *looks)[5:], before)
            self.assertEqual(told(*made, *looks, call, *looks)[5 + len(looks):], before)

    def test_many_behind_one_another(self):
        made = [begin(2), table([2, 1]), table([1, 0]), table([3, 3])]
        looks = look_around()
        self.assertEqual(told(*made, *REFUSED, *looks)[4 + len(REFUSED):], told(*made, *looks)[4:])


class Size(unittest.TestCase):
    def test_longest_list(self):
        calls = same([LARGEST_IN_ROW] * 40, [LARGEST_IN_ROW] * 40) * 256
        self.assertEqual(len(calls), 21248)
        self.assertEqual(answers(calls), [1, -11] * 256)

    def test_256_calls_with_longest_rows(self):
        made = [begin(3), table([2, 4, 1])]
        answered = told(*made, *[same([0] * 40, [0] * (i % 41)) for i in range(254)])
        self.assertEqual(answered[2:], [[1 if i % 41 % 3 == 1 else 0] for i in range(254)])

    def test_256_begins(self):
        self.assertEqual(answers([0, 3] * 256), [1, 0] * 256)

    def test_256_changes_with_all_that_can_come(self):
        made = [begin(3), table([2, 4, 1]), table([6, 2, 1]), table([0, 1, 2])]
        answered = told(*made, *[cell(0, 0, 0), count(), cell(0, 0, 0), count()] * 63)
        self.assertEqual(answered[7::4], [[440]] * 63)

    def test_256_turns(self):
        made = [begin(2), table([3, 0])]
        self.assertEqual(told(*made, *[turn()] * 253, show(0))[-1], [2, 1, 1])


if __name__ == "__main__":
    unittest.main()
