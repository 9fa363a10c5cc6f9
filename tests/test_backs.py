"""Back by prices."""

import unittest
from itertools import combinations

from millshare.backs import back
from millshare.errors import NoCount, NoPrice
from millshare.mills import Mill
from tests.plain import small_mills

HUGE = 10 ** 39
# Past what Python itself is willing to write in figures.
BEYOND = 10 ** 5000

MILL = Mill(5, [(3, -2), (4, 0), (2, 7)])
NONE = Mill(5, [])


def plain_back(mill, costs, prices, many):
    """The greatest over the prices, each gain found by trying all numbers."""
    totals = [mill.base + sum(costs[:n]) for n in range(len(costs) + 1)]
    gains = [max(price * n - total for n, total in enumerate(totals)) for price in prices]
    return max(price * many - gain for price, gain in zip(prices, gains))


class BackTest(unittest.TestCase):
    """[9]"""

    def test_one_price_that_is_a_cost(self):
        self.assertEqual([back(MILL, [-2], many) for many in range(10)],
                         [5, 3, 1, -1, -3, -5, -7, -9, -11, -13])
        self.assertEqual([back(MILL, [0], many) for many in range(10)], [-1] * 10)
        self.assertEqual([back(MILL, [7], many) for many in range(10)],
                         [-50, -43, -36, -29, -22, -15, -8, -1, 6, 13])

    def test_one_price_one_less_or_one_more_than_a_cost(self):
        self.assertEqual([back(MILL, [-3], many) for many in (0, 1, 3, 9)], [5, 2, -4, -22])
        self.assertEqual([back(MILL, [-1], many) for many in (0, 2, 3, 4, 9)], [2, 0, -1, -2, -7])
        self.assertEqual([back(MILL, [1], many) for many in (0, 3, 6, 7, 8)], [-8, -5, -2, -1, 0])
        self.assertEqual([back(MILL, [6], many) for many in (0, 7, 9)], [-43, -1, 11])
        self.assertEqual([back(MILL, [8], many) for many in (0, 7, 9)], [-59, -3, 13])

    def test_several_prices_in_any_order_the_same_one_twice(self):
        for prices in ([-2, 7], [7, -2], [7, -2, 7, -2]):
            told = [back(MILL, prices, many) for many in range(10)]
            self.assertEqual(told, [5, 3, 1, -1, -3, -5, -7, -1, 6, 13])

    def test_no_stretches(self):
        for prices in ([0], [-4], [3, 9], [-HUGE, HUGE, BEYOND]):
            self.assertEqual(back(NONE, prices, 0), 5)

    def test_huge_numbers(self):
        mill = Mill(-1, [(HUGE, -HUGE), (HUGE + 1, 3)])
        cost = -1 - HUGE * HUGE
        self.assertEqual(back(mill, [-HUGE], 2 * HUGE + 1), -1 - HUGE * (2 * HUGE + 1))
        self.assertEqual(back(mill, [3], 2 * HUGE + 1), cost + 3 * (HUGE + 1))
        self.assertEqual(back(mill, [-HUGE, 3], HUGE), cost)
        self.assertEqual(back(mill, [-HUGE, 3], HUGE - 1), cost + HUGE)
        self.assertEqual(back(mill, [0], HUGE + 1), cost)
        self.assertEqual(back(mill, [-BEYOND, BEYOND], 2 * HUGE + 1), cost + 3 * (HUGE + 1))

    def test_pairs_of_prices_for_all_small_mills(self):
        for mill, costs in small_mills():
            for prices in combinations(range(-3, 4), 2):
                for many in range(len(costs) + 1):
                    wanted = plain_back(mill, costs, prices, many)
                    self.assertEqual(back(mill, list(prices), many), wanted)

    def test_never_above_the_cost_and_the_cost_by_that_piece_or_the_next(self):
        for mill, costs in small_mills():
            for price in range(-3, 4):
                for many in range(len(costs) + 1):
                    told = back(mill, [price], many)
                    self.assertLessEqual(told, mill.cost(many))
                    if price in costs[max(many - 1, 0):many + 1]:
                        self.assertEqual(told, mill.cost(many))

    def test_by_its_own_prices_the_cost_of_each_number_comes_back(self):
        for mill in (MILL, NONE, *[mill for mill, _ in small_mills()]):
            for many in range(mill.size + 1):
                self.assertEqual(back(mill, mill.prices(), many), mill.cost(many))

    def test_own_prices_of_a_mill_of_thirty_huge_stretches(self):
        mill = Mill(HUGE, [(10 ** 38 + k, k * HUGE - 9) for k in range(30)])
        ends = [sum(many for many, _ in mill.stretches[:k]) for k in range(31)]
        for end in ends:
            for many in (end - 1, end, end + 1):
                if 0 <= many <= mill.size:
                    self.assertEqual(back(mill, mill.prices(), many), mill.cost(many))

    def test_no_prices_are_refused(self):
        for mill in (MILL, NONE):
            for many in range(mill.size + 1):
                with self.assertRaises(NoPrice):
                    back(mill, [], many)

    def test_no_prices_and_a_wrong_number_together(self):
        for mill in (MILL, NONE):
            for many in (-1, mill.size + 1, HUGE, -BEYOND, BEYOND):
                with self.assertRaises(NoPrice):
                    back(mill, [], many)

    def test_other_numbers_are_refused(self):
        for mill in (MILL, NONE, Mill(0, [(HUGE, 2)])):
            for many in (-1, -2, -BEYOND, mill.size + 1, mill.size + HUGE, BEYOND):
                for prices in ([0], [-2, 0, 7]):
                    with self.assertRaises(NoCount):
                        back(mill, prices, many)


if __name__ == "__main__":
    unittest.main()
