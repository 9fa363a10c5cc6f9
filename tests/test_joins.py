"""Mills joined, and a part taken out of a mill."""

import unittest
from itertools import permutations, product

from millshare.errors import NoMill, NoPart
from millshare.joins import joined, taken_out
from millshare.mills import Mill
from tests.plain import fields, pieces, small_lists, stretches_of

HUGE = 10 ** 39


def of_costs(base, costs):
    return Mill(base, [(1, cost) for cost in sorted(costs)])


class JoinedTest(unittest.TestCase):
    """[5]"""

    def test_bases_summed_and_pieces_by_rising_costs(self):
        one = Mill(5, [(3, -2), (4, 4)])
        two = Mill(-7, [(1, -3), (2, 0), (6, 9)])
        wanted = (-2, [(1, -3), (3, -2), (2, 0), (4, 4), (6, 9)], 16)
        self.assertEqual(fields(joined([one, two])), wanted)

    def test_like_costs_are_put_together(self):
        mills = [Mill(1, [(3, 2), (1, 5)]), Mill(1, [(4, 2)]), Mill(1, [(2, 0), (6, 5)])]
        self.assertEqual(fields(joined(mills)), (3, [(2, 0), (7, 2), (7, 5)], 16))

    def test_one_mill(self):
        mill = Mill(5, [(3, -2), (4, 4)])
        self.assertEqual(fields(joined([mill])), fields(mill))

    def test_the_same_mill_several_times(self):
        mill = Mill(5, [(3, -2), (4, 4)])
        self.assertEqual(fields(joined([mill] * 3)), (15, [(9, -2), (12, 4)], 21))

    def test_mills_without_stretches(self):
        self.assertEqual(fields(joined([Mill(2, []), Mill(-5, [])])), (-3, [], 0))
        self.assertEqual(fields(joined([Mill(2, []), Mill(1, [(1, 1)])])), (3, [(1, 1)], 1))

    def test_huge_numbers(self):
        one = Mill(HUGE, [(HUGE, -HUGE), (HUGE, 1)])
        two = Mill(HUGE, [(HUGE - 1, -HUGE), (1, 0)])
        wanted = (2 * HUGE, [(2 * HUGE - 1, -HUGE), (1, 0), (HUGE, 1)], 3 * HUGE)
        self.assertEqual(fields(joined([one, two])), wanted)

    def test_all_pairs_of_small_mills(self):
        for one, two in product(list(small_lists())[::5], repeat=2):
            costs = pieces(one) + pieces(two)
            wanted = (7, stretches_of(costs), len(costs))
            self.assertEqual(fields(joined([Mill(3, one), Mill(4, two)])), wanted)

    def test_whichever_way_and_in_whatever_order(self):
        mills = [Mill(1, [(3, 2), (1, 5)]), Mill(2, [(4, 2), (1, 3)]),
                 Mill(4, []), Mill(-8, [(2, 0), (6, 5)])]
        wanted = fields(joined(mills))
        for order in permutations(mills):
            self.assertEqual(fields(joined(list(order))), wanted)
            for at in (1, 2, 3):
                halves = [joined(list(order[:at])), joined(list(order[at:]))]
                self.assertEqual(fields(joined(halves)), wanted)

    def test_an_empty_list_is_refused(self):
        with self.assertRaises(NoMill):
            joined([])


class TakenOutTest(unittest.TestCase):
    """[8]"""

    def test_ordinary(self):
        whole = Mill(5, [(3, -2), (4, 0), (2, 7)])
        part = Mill(9, [(1, -2), (4, 0)])
        self.assertEqual(fields(taken_out(whole, part)), (-4, [(2, -2), (2, 7)], 4))

    def test_at_the_first_a_middle_and_the_last_cost(self):
        whole = Mill(0, [(3, -2), (4, 0), (2, 7)])
        told = [taken_out(whole, Mill(0, [pair])).stretches for pair in whole.stretches]
        wanted = [[(4, 0), (2, 7)], [(3, -2), (2, 7)], [(3, -2), (4, 0)]]
        self.assertEqual(told, wanted)

    def test_a_part_that_is_the_whole(self):
        whole = Mill(5, [(3, -2), (4, 0)])
        self.assertEqual(fields(taken_out(whole, whole)), (0, [], 0))
        like = Mill(5, [(3, -2), (4, 0)])
        self.assertEqual(fields(taken_out(whole, like)), (0, [], 0))

    def test_a_part_that_makes_no_pieces(self):
        whole = Mill(5, [(3, -2), (4, 0)])
        self.assertEqual(fields(taken_out(whole, Mill(8, []))), (-3, [(3, -2), (4, 0)], 7))
        self.assertEqual(fields(taken_out(Mill(5, []), Mill(8, []))), (-3, [], 0))

    def test_one_piece_less_than_all(self):
        whole = Mill(0, [(HUGE, -1), (HUGE, 0)])
        part = Mill(0, [(HUGE - 1, -1), (HUGE, 0)])
        self.assertEqual(fields(taken_out(whole, part)), (0, [(1, -1)], 1))

    def test_one_piece_more_of_a_cost_is_refused(self):
        whole = Mill(0, [(3, -2), (4, 0), (HUGE, 7)])
        for many, cost in whole.stretches:
            with self.subTest(cost=cost), self.assertRaises(NoPart):
                taken_out(whole, Mill(0, [(many + 1, cost)]))

    def test_one_piece_more_behind_others_that_fit_is_refused(self):
        whole = Mill(0, [(3, -2), (4, 0), (2, 7)])
        with self.assertRaises(NoPart):
            taken_out(whole, Mill(0, [(1, -2), (1, 0), (3, 7)]))

    def test_a_cost_that_the_whole_has_not_is_refused(self):
        whole = Mill(0, [(3, -2), (4, 0), (2, 7)])
        for cost in (-3, -1, 1, 6, 8):
            with self.subTest(cost=cost), self.assertRaises(NoPart):
                taken_out(whole, Mill(0, [(1, cost)]))
        with self.assertRaises(NoPart):
            taken_out(Mill(0, []), Mill(0, [(1, 0)]))

    def test_all_pairs_of_small_mills(self):
        for one, two in product(list(small_lists())[::5], repeat=2):
            whole, part = Mill(3, one), Mill(4, two)
            left = pieces(one)
            fits = True
            for cost in pieces(two):
                fits = fits and cost in left
                if fits:
                    left.remove(cost)
            if not fits:
                with self.assertRaises(NoPart):
                    taken_out(whole, part)
                continue
            rest = taken_out(whole, part)
            self.assertEqual(fields(rest), fields(of_costs(-1, left)))
            self.assertEqual(fields(joined([rest, part])), fields(whole))

    def test_what_was_joined_is_taken_out(self):
        one = Mill(HUGE, [(HUGE, -HUGE), (HUGE, 1)])
        two = Mill(-3, [(HUGE - 1, -HUGE), (1, 0)])
        self.assertEqual(fields(taken_out(joined([one, two]), two)), fields(one))
        self.assertEqual(fields(taken_out(joined([one, two]), one)), fields(two))


if __name__ == "__main__":
    unittest.main()
