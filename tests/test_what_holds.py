"""What holds over the whole program, a to f, told by its own answers over many tables."""

import itertools
import unittest

from tests.helper import (
    THERE_IS_NONE, Numbers, all_told, back, begin, cell, come, commute, count, drop, full, goes, last_told, lead,
    look_around, look_behind, met, nothing, round_of, same, sets, show, still, table, told, turn, word)

EDGES = [
    (1, []), (2, []), (3, []), (1, [[0]]), (1, [[1]]), (1, [[1], [0], [1]]), (2, [[0, 0]]), (2, [[3, 3]]),
    (2, [[1, 2]]), (2, [[2, 1], [2, 1]]), (2, [[2, 1], [1, 0]]), (3, [[0, 0, 0], [7, 7, 7], [1, 2, 4]]),
    (3, [[2, 4, 3]]), (3, [[2, 6, 0], [4, 1, 3]]), (3, [[2, 4, 1], [2, 2, 4]]),
    (3, [[2, 4, 1], [2, 1, 4], [1, 2, 5]]), (3, [[2, 4, 1], [2, 1, 4], [1, 1, 4]]),
]


def some_boards(seed, size):
    """The edges, then tables that look thrown: places and rows of sets."""
    numbers = Numbers(seed)
    boards = list(EDGES)
    for time in range(size):
        n = 1 + numbers.below(3)
        # Sets of few places now and then, else nearly all is everything soon.
        few = numbers.below(2)
        rows = [[numbers.below(2 ** n) & (numbers.below(2 ** n) if few else 2 ** n - 1) for i in range(n)]
                for k in range(numbers.below(4))]
        boards.append((n, rows))
    return boards


def made_of(board):
    return [begin(board[0])] + [table(row) for row in board[1]]


def told_of(board, calls):
    """What is answered to the calls on these tables, in lists as long as may be."""
    made = made_of(board)
    found = []
    for first in range(0, len(calls), 240):
        found += told(*made, *calls[first:first + 240])[len(made):]
    return found


def all_coming(board):
    return all_told(made_of(board))


def some_tables(numbers, board, longest):
    return [numbers.below(len(board[1])) for time in range(numbers.below(longest + 1))] if board[1] else []


def rows_up_to(size, longest):
    """All rows in their order: the shorter first, then by the first that differs."""
    return [list(row) for length in range(1, longest + 1) for row in itertools.product(range(size), repeat=length)]


def mirrored(row):
    return [sum(2 ** i for i in range(len(row)) if row[i] // 2 ** j % 2) for j in range(len(row))]


class WhatComesOfARow(unittest.TestCase):
    def test_a_just_the_ways(self):
        for board in some_boards(1, 30):
            n = board[0]
            for row in [[]] + rows_up_to(len(board[1]), 3):
                ways = [0] * n
                for path in itertools.product(range(n), repeat=len(row) + 1):
                    if all(board[1][k][path[at]] // 2 ** path[at + 1] % 2 for at, k in enumerate(row)):
                        ways[path[0]] |= 2 ** path[-1]
                self.assertEqual(told_of(board, [word(row)]), [[n] + ways])

    def test_a_it_does_not_matter_which_two_first(self):
        numbers = Numbers(2)
        for board in some_boards(2, 60):
            row = some_tables(numbers, board, 12)
            whole = told_of(board, [word(row)])[0]
            for cut in range(len(row) + 1):
                parts = [given[1:] for given in told_of(board, [word(row[:cut]), word(row[cut:])])]
                self.assertEqual(told_of((board[0], parts), [word([0, 1])])[0], whole)

    def test_a_commute_and_same_tell_as_word(self):
        for board in some_boards(3, 60):
            for k, j in itertools.product(range(len(board[1])), repeat=2):
                answered = told_of(board, [word([k, j]), word([j, k]), commute(k, j), same([k, j], [j, k])])
                self.assertEqual(answered[2:], [[int(answered[0] == answered[1])]] * 2)


class AllThatCanCome(unittest.TestCase):
    def test_b_each_once_by_a_shortest_row(self):
        for board in some_boards(4, 60):
            found = all_coming(board)
            rows = [row for row, given in found]
            self.assertEqual(rows, sorted(rows, key=lambda row: (len(row), row)))
            self.assertEqual(len({tuple(given) for row, given in found}), len(found))
            self.assertEqual([answered[1:] for answered in told_of(board, [word(row) for row in rows])],
                             [given for row, given in found])

    def test_b_all_rows_tried(self):
        for board in some_boards(5, 40):
            rows = rows_up_to(len(board[1]), 6)
            first = {}
            for row, answered in zip(rows, told_of(board, [word(row) for row in rows])):
                first.setdefault(tuple(answered[1:]), row)
            found = [(row, given) for row, given in all_coming(board) if len(row) <= 6]
            self.assertEqual([(row, list(given)) for given, row in first.items()], found)

    def test_b_one_table_more_gives_no_other(self):
        for board in some_boards(6, 40):
            found = all_coming(board)
            can = {tuple(given) for row, given in found}
            longer = [word(row + [k]) for row, given in found for k in range(len(board[1]))]
            for answered in told_of(board, longer):
                self.assertIn(tuple(answered[1:]), can)

    def test_b_come_tells_the_same(self):
        for board in some_boards(7, 40):
            found = all_coming(board)
            self.assertEqual(told_of(board, [come(given) for row, given in found]),
                             [[len(row)] + row + given for row, given in found])

    def test_b_what_is_not_told_can_not_come(self):
        for board in some_boards(8, 15):
            can = [given for row, given in all_coming(board)]
            others = [list(row) for row in itertools.product(range(2 ** board[0]), repeat=board[0])]
            others = [row for row in others if row not in can]
            self.assertEqual(told_of(board, [come(row) for row in others]), [THERE_IS_NONE] * len(others))

    def test_b_still_counts_each_once(self):
        for board in some_boards(9, 40):
            found = all_coming(board)
            doubled = told_of(board, [word(row + row) for row, given in found])
            kept = sum(answered[1:] == given for answered, (row, given) in zip(doubled, found))
            self.assertEqual(told_of(board, [still()]), [[kept]])


class WhatIsSought(unittest.TestCase):
    def check_sought(self, call, fits):
        """By no longer row than any; if none is told there is none."""
        for board in some_boards(10, 150):
            n = board[0]
            sought = [[len(row)] + row + given for row, given in all_coming(board) if fits(given, n)]
            self.assertEqual(told_of(board, [call]), sought[:1] or [THERE_IS_NONE])

    def test_c_nothing(self):
        self.check_sought(nothing(), lambda row, n: row == [0] * n)

    def test_c_full(self):
        self.check_sought(full(), lambda row, n: row == [2 ** n - 1] * n)

    def test_c_met(self):
        self.check_sought(met(), lambda row, n: any(all(s // 2 ** j % 2 for s in row) for j in range(n)))

    def test_c_behind_nothing_comes_nothing(self):
        numbers = Numbers(11)
        for board in some_boards(11, 80):
            answered = told_of(board, [nothing()])[0]
            if answered != THERE_IS_NONE:
                row = answered[1:1 + answered[0]]
                more = some_tables(numbers, board, 40 - len(row))
                for longer in (row + more, more + row):
                    self.assertEqual(told_of(board, [word(longer)]), [[board[0]] + [0] * board[0]])


class SetsAndPowers(unittest.TestCase):
    def test_d_sets_go_as_all_their_places_do(self):
        numbers = Numbers(12)
        for board in some_boards(12, 60):
            n = board[0]
            row = some_tables(numbers, board, 8)
            single = [given[0] for given in told_of(board, [goes(2 ** i, row) for i in range(n)])]
            self.assertEqual(told_of(board, [word(row)]), [[n] + single])
            for s in range(2 ** n):
                together = 0
                for i in range(n):
                    together |= single[i] if s // 2 ** i % 2 else 0
                self.assertEqual(told_of(board, [goes(s, row)]), [[together]])

    def test_d_sets_are_those_led_to(self):
        for board in some_boards(13, 60):
            every = range(2 ** board[0])
            # Each set that one may be at behind what can come, and s itself.
            rows = [row for row, given in all_coming(board)]
            for s in every:
                ends = told_of(board, [goes(s, row) for row in [[]] + rows if len(row) <= 40])
                reached = sorted({given[0] for given in ends})
                self.assertEqual(told_of(board, [sets(s)]), [[len(reached)] + reached])
                ways = told_of(board, [lead(s, u) for u in every])
                self.assertEqual([u for u in every if ways[u] != THERE_IS_NONE], reached)
                for u in reached:
                    self.assertEqual(told_of(board, [goes(s, ways[u][1:])]), [[u]])
                self.assertEqual(ways[s], [0])

    def test_d_lead_is_first_of_all_rows(self):
        for board in some_boards(14, 20):
            rows = [[]] + rows_up_to(len(board[1]), 5)
            for s in range(2 ** board[0]):
                first = {}
                for row, given in zip(rows, told_of(board, [goes(s, row) for row in rows])):
                    first.setdefault(given[0], row)
                ways = told_of(board, [lead(s, u) for u in first])
                self.assertEqual(ways, [[len(row)] + row for row in first.values()])

    def test_d_powers_come_round_just_as_told(self):
        for board in some_boards(15, 150):
            for k in range(len(board[1])):
                power, steps = told_of(board, [round_of(k)])[0]
                powers = told_of(board, [word([k] * exponent) for exponent in range(41)])
                for exponent in range(power, 41 - steps):
                    self.assertEqual(powers[exponent], powers[exponent + steps])
                once = [tuple(given) for given in powers[1:power + steps]]
                self.assertEqual(len(set(once)), power + steps - 1)


class Mirrored(unittest.TestCase):
    def test_e_a_row_is_mirrored_from_its_end(self):
        numbers = Numbers(16)
        for board in some_boards(16, 100):
            row = some_tables(numbers, board, 10)
            made = made_of(board)
            plain = last_told(*made, word(row))
            self.assertEqual(last_told(*made, turn(), word(row[::-1])), plain[:1] + mirrored(plain[1:]))

    def test_e_all_that_can_come_is_mirrored(self):
        for board in some_boards(17, 40):
            turned = (board[0], [mirrored(row) for row in board[1]])
            self.assertEqual([given[1:] for given in told(*made_of(board), turn(), *[show(k) for k in range(
                len(board[1]))])[2 + len(board[1]):]], turned[1])
            plain = sorted(mirrored(given) for row, given in all_coming(board))
            self.assertEqual(sorted(given for row, given in all_coming(turned)), plain)
            self.assertEqual(told_of(board, [count(), still()]), told_of(turned, [count(), still()]))
            self.assertEqual([given[0] for given in told_of(board, [nothing(), full()])],
                             [given[0] for given in told_of(turned, [nothing(), full()])])

    def test_e_powers_and_orders_stay(self):
        for board in some_boards(18, 60):
            looks = [round_of(k) for k in range(3)] + [commute(k, j) for k in range(3) for j in range(3)]
            made = made_of(board)
            self.assertEqual(told(*made, turn(), *looks)[len(made) + 1:], told(*made, *looks)[len(made):])


class TakenBack(unittest.TestCase):
    def test_f_all_is_as_it_was(self):
        looks = look_around()
        behind = look_behind()
        for board in some_boards(19, 20):
            made = made_of(board)
            changes = [table([1] * board[0]), cell(0, 0, 0), drop(0), turn()]
            seen = told(*made, *looks)[len(made):]
            taken_back = told(*made, *behind)[len(made):]
            for change in changes:
                answered = told(*made, change, back(), *looks)
                if answered[len(made)][0] >= 0:
                    self.assertEqual(answered[len(made) + 2:], seen)
                    self.assertEqual(told(*made, change, back(), *behind)[len(made) + 2:], taken_back)

    def test_f_looking_changes_nothing(self):
        looks = look_around()
        behind = look_behind()
        for board in some_boards(20, 20):
            made = made_of(board)
            twice = told(*made, *looks, *looks, *behind)[len(made):]
            self.assertEqual(twice[:len(looks)], twice[len(looks):2 * len(looks)])
            self.assertEqual(twice[2 * len(looks):], told(*made, *behind)[len(made):])


if __name__ == "__main__":
    unittest.main()
