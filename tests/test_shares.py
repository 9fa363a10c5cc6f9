"""Shares of a number of pieces, what they cost, and the move that betters them."""

import unittest
from itertools import permutations

from millshare.errors import NoCount, NoMill
from millshare.joins import joined
from millshare.mills import Mill
from millshare.shares import better, cost_of, shares
from tests.plain import all_shares, few_lists, plain_cost, plain_shares

HUGE = 10 ** 39
# Past what Python itself is willing to write in figures.
BEYOND = 10 ** 5000

ONE = Mill(5, [(3, -2), (4, 4)])
TWO = Mill(-7, [(1, -3), (2, 0), (6, 9)])
NONE = Mill(2, [])


class SharesTest(unittest.TestCase):
    """[6]"""

    def test_ordinary(self):
        wanted = {
            0: [0, 0], 1: [0, 1], 2: [1, 1], 4: [3, 1], 5: [3, 2], 6: [3, 3],
            7: [4, 3], 10: [7, 3], 11: [7, 4], 15: [7, 8], 16: [7, 9],
        }
        self.assertEqual({many: shares([ONE, TWO], many) for many in wanted}, wanted)

    def test_the_other_way_round(self):
        for many in range(17):
            told = shares([TWO, ONE], many)
            self.assertEqual(told[::-1], shares([ONE, TWO], many))

    def test_one_mill_makes_all(self):
        self.assertEqual([shares([ONE], many) for many in range(8)], [[k] for k in range(8)])

    def test_of_like_costs_the_first_makes_most(self):
        mills = [Mill(0, [(2, 1)]), Mill(9, [(3, 1)]), Mill(-9, [(1, 1)])]
        wanted = [[0, 0, 0], [1, 0, 0], [2, 0, 0], [2, 1, 0], [2, 2, 0], [2, 3, 0], [2, 3, 1]]
        self.assertEqual([shares(mills, many) for many in range(7)], wanted)

    def test_cheaper_pieces_go_ahead_of_the_first_mill(self):
        mills = [Mill(0, [(1, 0), (2, 5)]), Mill(0, [(4, 5)]), Mill(0, [(2, 3), (2, 5)])]
        wanted = {1: [1, 0, 0], 2: [1, 0, 1], 3: [1, 0, 2], 4: [2, 0, 2], 5: [3, 0, 2],
                  6: [3, 1, 2], 9: [3, 4, 2], 10: [3, 4, 3], 11: [3, 4, 4]}
        self.assertEqual({many: shares(mills, many) for many in wanted}, wanted)

    def test_the_same_mill_several_times(self):
        mills = [ONE, ONE, ONE]
        wanted = {0: [0, 0, 0], 2: [2, 0, 0], 4: [3, 1, 0], 9: [3, 3, 3], 10: [4, 3, 3],
                  14: [7, 4, 3], 20: [7, 7, 6], 21: [7, 7, 7]}
        self.assertEqual({many: shares(mills, many) for many in wanted}, wanted)

    def test_mills_without_stretches(self):
        self.assertEqual(shares([NONE], 0), [0])
        self.assertEqual(shares([NONE, NONE], 0), [0, 0])
        self.assertEqual(shares([NONE, ONE, NONE], 3), [0, 3, 0])
        self.assertEqual(shares([NONE, ONE, NONE], 7), [0, 7, 0])

    def test_bases_do_not_sway_the_shares(self):
        mills = [Mill(HUGE, [(2, 1)]), Mill(-HUGE, [(2, 1)])]
        self.assertEqual(shares(mills, 3), [2, 1])

    def test_huge_numbers(self):
        mills = [Mill(1, [(HUGE, -HUGE), (HUGE, 3)]), Mill(2, [(HUGE - 1, -HUGE), (HUGE, 2)])]
        wanted = {
            1: [1, 0],
            HUGE: [HUGE, 0],
            HUGE + 1: [HUGE, 1],
            2 * HUGE - 1: [HUGE, HUGE - 1],
            2 * HUGE: [HUGE, HUGE],
            3 * HUGE - 1: [HUGE, 2 * HUGE - 1],
            3 * HUGE: [HUGE + 1, 2 * HUGE - 1],
            4 * HUGE - 1: [2 * HUGE, 2 * HUGE - 1],
        }
        self.assertEqual({many: shares(mills, many) for many in wanted}, wanted)

    def test_six_mills_of_thirty_stretches(self):
        mills = [Mill(k, [(10 ** 38 + j, 6 * j + k) for j in range(30)]) for k in range(6)]
        whole = joined(mills)
        for many in (0, 1, whole.size // 2, whole.size - 1, whole.size):
            told = shares(mills, many)
            self.assertEqual(sum(told), many)
            self.assertEqual(cost_of(mills, told), whole.cost(many))

    def test_all_numbers_for_a_few_mills(self):
        for mills in few_lists():
            for many, rows in all_shares(mills).items():
                self.assertEqual(shares(mills, many), plain_shares(rows))

    def test_they_cost_what_the_joined_mill_costs_and_no_others_cost_less(self):
        for mills in few_lists():
            whole = joined(mills)
            for many, rows in all_shares(mills).items():
                cost = cost_of(mills, shares(mills, many))
                self.assertEqual(cost, whole.cost(many))
                self.assertEqual(cost, min(cost for cost, _ in rows))

    def test_in_whatever_order_they_cost_the_same(self):
        mills = [ONE, TWO, NONE, Mill(3, [(2, -2), (5, 0), (1, 4)])]
        whole = joined(mills)
        for order in permutations(mills):
            for many in range(whole.size + 1):
                told = shares(list(order), many)
                self.assertEqual(cost_of(list(order), told), whole.cost(many))

    def test_an_empty_list_is_refused(self):
        for many in (0, 1, -1, HUGE, BEYOND, -BEYOND):
            with self.assertRaises(NoMill):
                shares([], many)

    def test_other_numbers_are_refused(self):
        for mills in ([NONE], [ONE], [NONE, ONE, TWO], [Mill(0, [(HUGE, 1)])] * 2):
            size = sum(mill.size for mill in mills)
            for many in (-1, -2, -HUGE, -BEYOND, size + 1, size + 2, size + HUGE, BEYOND):
                with self.subTest(size=size), self.assertRaises(NoCount):
                    shares(mills, many)


class WrongSharesTest(unittest.TestCase):
    """[7], what both refuse"""

    def test_an_empty_list_of_mills_is_refused_first(self):
        for numbers in ([], [0], [-1], [1, 2], [-BEYOND]):
            for ask in (cost_of, better):
                with self.subTest(ask=ask.__name__), self.assertRaises(NoMill):
                    ask([], numbers)

    def test_a_number_too_many_or_too_few_is_refused(self):
        for mills in ([ONE], [NONE], [ONE, TWO], [ONE, NONE, TWO]):
            for count in range(5):
                for ask in (cost_of, better):
                    if count != len(mills):
                        with self.subTest(count=count), self.assertRaises(NoCount):
                            ask(mills, [0] * count)

    def test_a_number_that_a_mill_does_not_make_is_refused(self):
        mills = [ONE, NONE, TWO, Mill(0, [(HUGE, 1)])]
        good = [3, 0, 9, 2]
        for place, mill in enumerate(mills):
            for number in (-1, -HUGE, -BEYOND, mill.size + 1, mill.size + HUGE, BEYOND):
                numbers = list(good)
                numbers[place] = number
                for ask in (cost_of, better):
                    with self.subTest(place=place), self.assertRaises(NoCount):
                        ask(mills, numbers)

    def test_wrong_numbers_that_make_up_for_each_other_are_refused(self):
        for numbers in ([-1, 1], [1, -1], [8, 0], [0, 10], [8, -1]):
            for ask in (cost_of, better):
                with self.subTest(numbers=numbers), self.assertRaises(NoCount):
                    ask([ONE, TWO], numbers)


class CostOfTest(unittest.TestCase):
    """[7], what shares cost"""

    def test_ordinary(self):
        wanted = {(0, 0): -2, (3, 1): -11, (4, 0): -4, (7, 9): 59, (0, 3): -5, (1, 4): 2}
        told = {numbers: cost_of([ONE, TWO], list(numbers)) for numbers in wanted}
        self.assertEqual(told, wanted)

    def test_the_bases_of_mills_that_make_none_count(self):
        self.assertEqual(cost_of([NONE], [0]), 2)
        self.assertEqual(cost_of([NONE, ONE, NONE], [0, 0, 0]), 9)

    def test_the_same_mill_twice(self):
        self.assertEqual(cost_of([ONE, ONE], [1, 4]), 10 - 2 - 2)

    def test_huge_numbers(self):
        mills = [Mill(1, [(HUGE, -HUGE), (HUGE, 3)]), Mill(HUGE, [(HUGE, 2)])]
        wanted = 1 - HUGE * HUGE + 3 + HUGE + 2 * (HUGE - 1)
        self.assertEqual(cost_of(mills, [HUGE + 1, HUGE - 1]), wanted)

    def test_all_shares_of_a_few_mills(self):
        for mills in few_lists():
            for rows in all_shares(mills).values():
                for cost, numbers in rows:
                    self.assertEqual(cost_of(mills, numbers), cost)


def plain_move(mills, numbers):
    """The move, by trying all pairs of places in their order."""
    def gained(giver, taker):
        moved = list(numbers)
        moved[giver] -= 1
        moved[taker] += 1
        return plain_cost(mills, numbers) - plain_cost(mills, moved)

    givers = [place for place, number in enumerate(numbers) if number > 0]
    takers = [place for place, mill in enumerate(mills) if numbers[place] < mill.size]
    moves = [(giver, taker) for giver in givers for taker in takers if giver != taker]
    best = max([gained(*move) for move in moves], default=0)
    if best <= 0:
        return None
    return [move for move in moves if gained(*move) == best][0]


class BetterTest(unittest.TestCase):
    """[7], the move"""

    def test_ordinary(self):
        wanted = {
            (7, 9): None, (0, 0): None, (3, 3): None, (4, 3): None, (3, 1): None,
            (4, 0): (0, 1), (4, 2): (0, 1), (0, 3): (1, 0), (2, 2): (1, 0),
            (3, 4): (1, 0), (7, 4): None, (6, 4): (1, 0), (0, 1): None, (1, 0): (0, 1),
        }
        told = {numbers: better([ONE, TWO], list(numbers)) for numbers in wanted}
        self.assertEqual(told, wanted)

    def test_of_several_the_first(self):
        dear = Mill(0, [(1, 0), (3, 5)])
        cheap = Mill(0, [(1, 0), (3, 2)])
        self.assertEqual(better([cheap, dear, dear, cheap, cheap], [1, 2, 4, 1, 1]), (1, 0))
        self.assertEqual(better([dear, cheap, dear, cheap], [4, 4, 4, 2]), (0, 3))
        self.assertEqual(better([dear, dear, cheap, cheap], [1, 3, 4, 3]), (1, 3))

    def test_the_dearest_and_the_cheapest(self):
        mills = [Mill(0, [(9, 3)]), Mill(0, [(9, 8)]), Mill(0, [(9, 1)]), Mill(0, [(9, 5)])]
        self.assertEqual(better(mills, [1, 1, 1, 1]), (1, 2))
        self.assertEqual(better(mills, [1, 0, 1, 1]), (3, 2))
        self.assertEqual(better(mills, [1, 1, 9, 1]), (1, 0))
        self.assertEqual(better(mills, [9, 1, 9, 1]), (1, 3))
        self.assertEqual(better(mills, [9, 1, 9, 9]), None)

    def test_none_where_the_costs_are_like(self):
        mills = [Mill(0, [(2, 5)]), Mill(9, [(3, 5)])]
        for numbers in ([0, 2], [1, 1], [2, 0], [0, 3]):
            self.assertIsNone(better(mills, numbers))

    def test_none_where_no_mill_makes_any_or_each_makes_all(self):
        for mills in ([ONE], [NONE], [ONE, TWO], [NONE, ONE], [NONE, NONE]):
            self.assertIsNone(better(mills, [0] * len(mills)))
            self.assertIsNone(better(mills, [mill.size for mill in mills]))

    def test_none_for_one_mill(self):
        for many in range(8):
            self.assertIsNone(better([ONE], [many]))

    def test_some_make_none_or_all_they_can(self):
        mills = [NONE, ONE, NONE, TWO]
        self.assertEqual(better(mills, [0, 0, 0, 9]), (3, 1))
        self.assertEqual(better(mills, [0, 7, 0, 0]), (1, 3))
        self.assertIsNone(better(mills, [0, 7, 0, 9]))

    def test_at_and_beside_where_a_stretch_ends(self):
        mills = [Mill(0, [(2, 1), (2, 4)]), Mill(0, [(2, 2), (2, 3)])]
        wanted = {(2, 2): None, (2, 1): None, (3, 1): (0, 1), (3, 2): (0, 1), (1, 1): (1, 0),
                  (1, 3): (1, 0), (2, 3): None, (3, 3): (0, 1), (3, 4): None}
        self.assertEqual({row: better(mills, list(row)) for row in wanted}, wanted)

    def test_huge_numbers(self):
        mills = [Mill(1, [(HUGE, -HUGE), (HUGE, 3)]), Mill(2, [(HUGE, 2), (HUGE, HUGE)])]
        wanted = {
            (HUGE, HUGE): None, (HUGE + 1, HUGE): None, (HUGE + 1, HUGE - 1): (0, 1),
            (HUGE - 1, 1): (1, 0), (HUGE, HUGE + 1): (1, 0), (2 * HUGE, HUGE + 1): None,
        }
        self.assertEqual({row: better(mills, list(row)) for row in wanted}, wanted)

    def test_all_shares_of_a_few_mills(self):
        for mills in few_lists():
            for rows in all_shares(mills).values():
                for _, numbers in rows:
                    self.assertEqual(better(mills, numbers), plain_move(mills, numbers))

    def test_none_just_where_the_shares_are_of_the_least_cost(self):
        for mills in few_lists():
            for rows in all_shares(mills).values():
                least = min(cost for cost, _ in rows)
                for cost, numbers in rows:
                    self.assertEqual(better(mills, numbers) is None, cost == least)

    def test_moves_lead_to_the_least_cost(self):
        mills = [ONE, TWO, Mill(3, [(2, -2), (5, 0), (1, 4)])]
        numbers = [0, 9, 6]
        while (move := better(mills, numbers)) is not None:
            before = cost_of(mills, numbers)
            numbers[move[0]] -= 1
            numbers[move[1]] += 1
            self.assertLess(cost_of(mills, numbers), before)
        self.assertEqual(cost_of(mills, numbers), joined(mills).cost(15))

    def test_shares_that_are_told_are_not_bettered(self):
        for mills in few_lists():
            for many in all_shares(mills):
                self.assertIsNone(better(mills, shares(mills, many)))


if __name__ == "__main__":
    unittest.main()
