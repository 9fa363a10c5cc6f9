"""Mills: how they are made and refused, costs, and what a price brings."""

import unittest

from millshare.errors import NoCount, NoMill
from millshare.mills import Mill
from tests.plain import fields, pieces, small_lists, small_mills, stretches_of

HUGE = 10 ** 39
# Past what Python itself is willing to write in figures.
BEYOND = 10 ** 5000


class MakingTest(unittest.TestCase):
    """[2]"""

    def test_fields(self):
        mill = Mill(5, [(3, -2), (4, 0), (1, 7)])
        self.assertEqual(fields(mill), (5, [(3, -2), (4, 0), (1, 7)], 8))

    def test_no_stretches(self):
        self.assertEqual(fields(Mill(-3, [])), (-3, [], 0))

    def test_like_costs_are_put_together(self):
        mill = Mill(0, [(1, 2), (2, 2), (3, 2), (1, 4), (5, 4), (1, 5)])
        self.assertEqual(fields(mill), (0, [(6, 2), (6, 4), (1, 5)], 13))

    def test_like_costs_of_nought_and_below(self):
        mill = Mill(0, [(1, -1), (1, -1), (2, 0), (3, 0)])
        self.assertEqual(mill.stretches, [(2, -1), (5, 0)])

    def test_huge_numbers(self):
        rows = [(HUGE, -HUGE), (HUGE + 1, -HUGE), (HUGE - 1, HUGE)]
        mill = Mill(-HUGE, rows)
        wanted = (-HUGE, [(2 * HUGE + 1, -HUGE), (HUGE - 1, HUGE)], 3 * HUGE)
        self.assertEqual(fields(mill), wanted)

    def test_forty_stretches(self):
        rows = [(k + 1, k) for k in range(40)]
        self.assertEqual(fields(Mill(0, rows)), (0, rows, 820))

    def test_all_small_lists(self):
        for rows in small_lists():
            costs = pieces(rows)
            wanted = (9, stretches_of(costs), len(costs))
            self.assertEqual(fields(Mill(9, rows)), wanted)

    def test_many_below_one_is_refused(self):
        good = [(1, 1), (2, 2), (3, 3)]
        for place in range(3):
            for many in (0, -1, -HUGE, -BEYOND):
                rows = list(good)
                rows[place] = (many, good[place][1])
                with self.subTest(place=place), self.assertRaises(NoMill):
                    Mill(0, rows)

    def test_many_below_one_beside_a_like_cost_is_refused(self):
        for rows in ([(5, 1), (0, 1)], [(5, 1), (-1, 1)], [(0, 1), (5, 1)]):
            with self.subTest(rows=rows), self.assertRaises(NoMill):
                Mill(0, rows)

    def test_a_stretch_alone_of_none_is_refused(self):
        with self.assertRaises(NoMill):
            Mill(0, [(0, 1)])

    def test_falling_costs_are_refused(self):
        for costs in ((2, 1, 3, 4), (1, 3, 2, 4), (1, 2, 4, 3), (0, -1), (-1, -2)):
            rows = [(1, cost) for cost in costs]
            with self.subTest(costs=costs), self.assertRaises(NoMill):
                Mill(0, rows)

    def test_a_cost_below_the_one_ahead_after_like_costs_is_refused(self):
        with self.assertRaises(NoMill):
            Mill(0, [(1, 2), (1, 3), (1, 3), (1, 2)])

    def test_huge_falling_costs_are_refused(self):
        for costs in ((HUGE, HUGE - 1), (BEYOND, BEYOND - 1)):
            with self.assertRaises(NoMill):
                Mill(0, [(HUGE, cost) for cost in costs])


class CostTest(unittest.TestCase):
    """[3]"""

    def test_numbers_at_and_beside_where_a_stretch_ends(self):
        mill = Mill(5, [(3, -2), (4, 0), (2, 7)])
        wanted = [5, 3, 1, -1, -1, -1, -1, -1, 6, 13]
        self.assertEqual([mill.cost(many) for many in range(10)], wanted)

    def test_no_pieces_cost_the_base(self):
        for base in (-HUGE, -1, 0, 7):
            self.assertEqual(Mill(base, [(2, 9)]).cost(0), base)
            self.assertEqual(Mill(base, []).cost(0), base)

    def test_piece_by_piece_for_all_small_mills(self):
        for mill, costs in small_mills():
            for many in range(len(costs) + 1):
                self.assertEqual(mill.cost(many), mill.base + sum(costs[:many]))

    def test_pieces_of_all_small_mills(self):
        for mill, costs in small_mills():
            numbers = range(1, len(costs) + 1)
            self.assertEqual([mill.piece(number) for number in numbers], costs)

    def test_huge_numbers(self):
        mill = Mill(-1, [(HUGE, -HUGE), (HUGE, 3)])
        self.assertEqual(mill.cost(HUGE - 1), -1 - HUGE * (HUGE - 1))
        self.assertEqual(mill.cost(HUGE), -1 - HUGE * HUGE)
        self.assertEqual(mill.cost(HUGE + 1), 2 - HUGE * HUGE)
        self.assertEqual(mill.cost(2 * HUGE), -1 - HUGE * HUGE + 3 * HUGE)
        told = [mill.piece(n) for n in (1, HUGE - 1, HUGE, HUGE + 1, 2 * HUGE)]
        self.assertEqual(told, [-HUGE, -HUGE, -HUGE, 3, 3])

    def test_other_numbers_of_pieces_are_refused(self):
        for rows in ([], [(2, 3)], [(2, 3), (HUGE, 4)]):
            mill = Mill(1, rows)
            for many in (-1, -2, -HUGE, -BEYOND, mill.size + 1, mill.size + HUGE, BEYOND):
                with self.subTest(rows=rows), self.assertRaises(NoCount):
                    mill.cost(many)

    def test_pieces_that_there_are_not_are_refused(self):
        for rows in ([], [(2, 3)], [(2, 3), (HUGE, 4)]):
            mill = Mill(1, rows)
            for number in (0, -1, -HUGE, -BEYOND, mill.size + 1, mill.size + 2, BEYOND):
                with self.subTest(rows=rows), self.assertRaises(NoCount):
                    mill.piece(number)


class ByPriceTest(unittest.TestCase):
    """[4]"""

    def test_prices_that_are_costs_one_less_and_one_more(self):
        mill = Mill(5, [(3, -2), (4, 0), (2, 7)])
        wanted = {
            -3: (0, 0), -2: (0, 3), -1: (3, 3), 0: (3, 7), 1: (7, 7),
            6: (7, 7), 7: (7, 9), 8: (9, 9), HUGE: (9, 9), -HUGE: (0, 0),
        }
        self.assertEqual({price: mill.by_price(price) for price in wanted}, wanted)

    def test_no_stretches(self):
        for price in (-1, 0, 1):
            self.assertEqual(Mill(5, []).by_price(price), (0, 0))
            self.assertEqual(Mill(5, []).gain(price), -5)

    def test_fewest_and_most_of_all_small_mills(self):
        for mill, costs in small_mills():
            for price in range(-4, 5):
                fewest = len([cost for cost in costs if cost < price])
                most = len([cost for cost in costs if cost <= price])
                self.assertEqual(mill.by_price(price), (fewest, most))

    def test_gain(self):
        mill = Mill(5, [(3, -2), (4, 0), (2, 7)])
        wanted = {-3: -5, -2: -5, -1: -2, 0: 1, 1: 8, 6: 43, 7: 50, 8: 59}
        self.assertEqual({price: mill.gain(price) for price in wanted}, wanted)

    def test_gain_is_the_greatest_just_from_the_fewest_to_the_most(self):
        for mill, costs in small_mills():
            for price in range(-4, 5):
                brought = [price * n - mill.cost(n) for n in range(len(costs) + 1)]
                gain = mill.gain(price)
                self.assertEqual(gain, max(brought))
                fewest, most = mill.by_price(price)
                best = [n for n, worth in enumerate(brought) if worth == gain]
                self.assertEqual(best, list(range(fewest, most + 1)))

    def test_huge_numbers(self):
        mill = Mill(-1, [(HUGE, -HUGE), (HUGE + 1, 3)])
        self.assertEqual(mill.by_price(-HUGE), (0, HUGE))
        self.assertEqual(mill.by_price(3), (HUGE, 2 * HUGE + 1))
        self.assertEqual(mill.by_price(BEYOND), (2 * HUGE + 1, 2 * HUGE + 1))
        self.assertEqual(mill.gain(-HUGE), 1)
        self.assertEqual(mill.gain(3), 1 + HUGE * (HUGE + 3))
        self.assertEqual(mill.gain(4), 1 + HUGE * (HUGE + 4) + HUGE + 1)


class PricesTest(unittest.TestCase):
    """[9], a mill's own prices"""

    def test_costs_of_the_stretches(self):
        mill = Mill(5, [(3, -2), (4, 0), (2, 7), (1, 7)])
        self.assertEqual(mill.prices(), [-2, 0, 7])

    def test_without_any_nought_alone(self):
        for base in (-4, 0, 4):
            self.assertEqual(Mill(base, []).prices(), [0])

    def test_prices_of_all_small_mills(self):
        for mill, costs in small_mills():
            self.assertEqual(mill.prices(), sorted(set(costs)) if costs else [0])

    def test_by_these_the_cost_of_each_number_comes_back(self):
        for mill, costs in small_mills():
            for many in range(len(costs) + 1):
                brought = [price * many - mill.gain(price) for price in mill.prices()]
                self.assertEqual(max(brought), mill.cost(many))


if __name__ == "__main__":
    unittest.main()
