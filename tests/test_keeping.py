"""[1]: nothing handed in is changed or kept; what is handed out is new."""

import ast
import unittest
from pathlib import Path

import millshare
from millshare.backs import back
from millshare.errors import MillError
from millshare.joins import joined, taken_out
from millshare.mills import Mill
from millshare.notes import read, written
from millshare.shares import better, cost_of, shares
from millshare.works import Works
from tests.plain import told

ROWS = [(3, -2), (1, -2), (4, 0)]


def some_mills():
    """Mills of like and unlike costs, one without stretches."""
    return [Mill(1, [(2, 3), (1, 6)]), Mill(2, [(2, 3), (1, 5)]), Mill(3, [])]


def works_of(mills):
    """Works of three mills, with four pieces wanted."""
    works = Works()
    for name, mill in zip("abc", mills):
        works.open_mill(name, mill)
    works.want(4)
    return works


class HandedInTest(unittest.TestCase):
    def test_stretches_stay_as_they_were(self):
        rows = list(ROWS)
        told(Mill(5, rows))
        self.assertEqual(rows, ROWS)

    def test_stretches_of_a_refused_mill_stay_as_they_were(self):
        for bad in ((0, 9), (1, -1)):
            rows = [*ROWS, bad]
            with self.assertRaises(MillError):
                Mill(5, rows)
            self.assertEqual(rows, [*ROWS, bad])

    def test_changed_stretches_do_not_change_the_mill(self):
        for given in (list(ROWS), [(4, -2), (4, 0)], []):
            wanted = told(Mill(5, list(given)))
            rows = list(given)
            mill = Mill(5, rows)
            rows.append((2, 9))
            rows[0] = (7, -7)
            self.assertEqual(told(mill), wanted)

    def test_joined_mills_and_their_list_stay_as_they_were(self):
        mills = [Mill(1, [(2, 5), (1, 6)]), Mill(2, [(2, 3), (1, 5)]), Mill(3, [])]
        before = [told(mill) for mill in mills]
        held = list(mills)
        joined(mills)
        self.assertEqual(mills, held)
        self.assertEqual([told(mill) for mill in mills], before)

    def test_a_changed_list_of_mills_does_not_change_the_joined_one(self):
        mills = [Mill(1, [(2, 5), (1, 6)]), Mill(2, [(2, 3)])]
        one = joined(mills)
        before = told(one)
        mills.pop()
        mills.append(Mill(7, [(1, 1)]))
        self.assertEqual(told(one), before)

    def test_whole_and_part_stay_as_they_were(self):
        whole, part = Mill(1, [(3, 5), (1, 6)]), Mill(2, [(1, 5), (1, 6)])
        before = told(whole), told(part)
        taken_out(whole, part)
        self.assertEqual((told(whole), told(part)), before)

    def test_what_comes_of_mills_is_another_mill(self):
        mill = Mill(1, [(3, 5)])
        for other in (joined([mill]), taken_out(mill, Mill(0, []))):
            self.assertIsNot(other, mill)
            self.assertIsNot(other.stretches, mill.stretches)


    def test_mills_and_numbers_stay_as_they_were(self):
        mills = some_mills()
        before = [told(mill) for mill in mills]
        held = list(mills)
        for many in range(7):
            numbers = shares(mills, many)
            same = list(numbers)
            cost_of(mills, numbers)
            better(mills, numbers)
            self.assertEqual(numbers, same)
        numbers = [2, 1, 0]
        self.assertEqual(better(mills, numbers), None)
        numbers = [0, 3, 0]
        self.assertEqual(better(mills, numbers), (1, 0))
        self.assertEqual(numbers, [0, 3, 0])
        self.assertEqual(mills, held)
        self.assertEqual([told(mill) for mill in mills], before)

    def test_prices_stay_as_they_were(self):
        mill = Mill(1, [(2, 5), (1, 6)])
        before = told(mill)
        prices = [6, 5, 9, 5]
        for many in range(4):
            back(mill, prices, many)
        self.assertEqual(prices, [6, 5, 9, 5])
        self.assertEqual(told(mill), before)

    def test_a_written_mill_stays_as_it_was(self):
        for rows in ([], [(2, 5), (1, 6)]):
            mill = Mill(1, rows)
            before = told(mill)
            text = written(mill)
            self.assertIsNot(read(text), mill)
            self.assertEqual(told(mill), before)

    def test_mills_in_works_stay_as_they_were(self):
        mills = some_mills()
        before = [told(mill) for mill in mills]
        works = works_of(mills)
        for many in range(7):
            works.want(many)
            works.told()
            works.cost()
        works.want(0)
        for name in "abc":
            works.close_mill(name)
        self.assertEqual([told(mill) for mill in mills], before)


class RefusedTest(unittest.TestCase):
    def test_a_refused_number_leaves_the_mill(self):
        mill = Mill(1, [(3, 5), (1, 6)])
        before = told(mill)
        for ask in (mill.cost, mill.piece):
            for number in (-1, 5):
                with self.assertRaises(MillError):
                    ask(number)
        self.assertEqual(told(mill), before)

    def test_a_refused_part_leaves_both(self):
        whole, part = Mill(1, [(3, 5), (1, 6)]), Mill(2, [(1, 5), (2, 6)])
        before = told(whole), told(part)
        with self.assertRaises(MillError):
            taken_out(whole, part)
        self.assertEqual((told(whole), told(part)), before)

    def test_a_refused_join_leaves_the_list(self):
        mills = []
        with self.assertRaises(MillError):
            joined(mills)
        self.assertEqual(mills, [])


    def test_refused_shares_leave_mills_and_numbers(self):
        mills = some_mills()
        held = list(mills)
        before = [told(mill) for mill in mills]
        for numbers in ([], [1, 1], [1, 1, 0, 0], [3, 3, 1], [-1, 0, 0], [0, 4, 0]):
            same = list(numbers)
            for ask in (cost_of, better):
                with self.assertRaises(MillError):
                    ask(mills, numbers)
                self.assertEqual(numbers, same)
        for many in (-1, 7):
            with self.assertRaises(MillError):
                shares(mills, many)
        self.assertEqual(mills, held)
        self.assertEqual([told(mill) for mill in mills], before)

    def test_numbers_refused_with_no_mills_stay_as_they_were(self):
        for ask in (cost_of, better):
            mills, numbers = [], [1, 2]
            with self.assertRaises(MillError):
                ask(mills, numbers)
            self.assertEqual((mills, numbers), ([], [1, 2]))

    def test_refused_prices_and_numbers_leave_all(self):
        mill = Mill(1, [(3, 5), (1, 6)])
        before = told(mill)
        for prices, many in (([], 1), ([], 9), ([5, 4], -1), ([5, 4], 5)):
            same = list(prices)
            with self.assertRaises(MillError):
                back(mill, prices, many)
            self.assertEqual(prices, same)
        self.assertEqual(told(mill), before)

    def test_refused_changes_leave_the_works(self):
        mills = some_mills()
        before = [told(mill) for mill in mills]
        works = works_of(mills)
        for ask in (
            lambda: works.open_mill("a", mills[2]),
            lambda: works.open_mill("", mills[2]),
            lambda: works.open_mill("abcdefghi", mills[2]),
            lambda: works.close_mill("d"),
            lambda: works.close_mill("a"),
            lambda: works.close_mill("b"),
            lambda: works.want(-1),
            lambda: works.want(7),
        ):
            with self.assertRaises(MillError):
                ask()
            self.assertEqual(list(works.told().items()), [("a", 2), ("b", 2), ("c", 0)])
            self.assertEqual((works.cost(), works.wanted()), (18, 4))
        self.assertEqual([told(mill) for mill in mills], before)

    def test_a_refused_text_leaves_what_was_read(self):
        mill = read("1: 3x5")
        before = told(mill)
        with self.assertRaises(MillError):
            read("1: 3x5 1x5")
        self.assertEqual(told(mill), before)


class HandedOutTest(unittest.TestCase):
    def test_changed_shares_change_nothing(self):
        mills = some_mills()
        for many in range(7):
            wanted = shares(mills, many)
            changed = shares(mills, many)
            changed[0] += 9
            changed.append(9)
            self.assertEqual(shares(mills, many), wanted)

    def test_what_is_told_later_does_not_change_what_was_handed_out(self):
        works = works_of(some_mills())
        before = works.told()
        works.want(6)
        works.open_mill("d", Mill(0, [(9, 0)]))
        works.close_mill("a")
        self.assertEqual(list(before.items()), [("a", 2), ("b", 2), ("c", 0)])
        self.assertEqual(list(works.told().items()), [("b", 0), ("c", 0), ("d", 6)])

    def test_a_changed_dict_changes_nothing(self):
        for works in (Works(), works_of(some_mills())):
            before = list(works.told().items()), works.cost(), works.wanted()
            changed = works.told()
            changed["a"] = 9
            changed["z"] = 9
            changed.pop("b", None)
            self.assertIsNot(works.told(), changed)
            self.assertEqual((list(works.told().items()), works.cost(), works.wanted()), before)
            changed.clear()
            self.assertEqual((list(works.told().items()), works.cost(), works.wanted()), before)

    def test_a_closed_mill_is_the_askers_own(self):
        works = works_of(some_mills())
        works.want(3)
        wanted = told(some_mills()[0])
        mill = works.close_mill("a")
        works.open_mill("a", Mill(9, [(3, 9)]))
        self.assertEqual(told(mill), wanted)

    def test_changed_prices_change_nothing(self):
        for rows in ([], [(3, 5), (1, 6)]):
            mill = Mill(1, rows)
            before = told(mill)
            prices = mill.prices()
            prices.append(9)
            prices[0] = -9
            self.assertEqual(told(mill), before)

    def test_prices_are_a_new_list_each_time(self):
        for rows in ([], [(3, 5), (1, 6)]):
            mill = Mill(1, rows)
            self.assertIsNot(mill.prices(), mill.prices())

    def test_what_is_told_does_not_hang_on_the_list_that_was_read(self):
        mill = Mill(1, [(3, 5), (1, 6)])
        before = told(mill)[1:]
        mill.stretches.clear()
        self.assertEqual(told(mill)[1:], before)
        self.assertEqual(joined([mill]).stretches, [(3, 5), (1, 6)])
        self.assertEqual(taken_out(mill, Mill(0, [(3, 5)])).stretches, [(1, 6)])

    def test_mills_that_come_of_others_share_no_list(self):
        mill = Mill(1, [(3, 5)])
        other = joined([mill])
        other.stretches.append((1, 9))
        self.assertEqual(mill.stretches, [(3, 5)])


class OutsideTest(unittest.TestCase):
    """No clock, chance or files: nothing is imported but the package's own."""

    def test_imports_and_calls(self):
        files = sorted(Path(millshare.__file__).parent.rglob("*.py"))
        self.assertGreaterEqual(len(files), 8)
        for file in files:
            for node in ast.walk(ast.parse(file.read_text())):
                with self.subTest(file=file.name):
                    self.assertNotIsInstance(node, ast.Import)
                    if isinstance(node, ast.ImportFrom):
                        self.assertTrue(node.module.startswith("millshare."))
                    if isinstance(node, ast.Name):
                        self.assertNotIn(node.id, ("open", "input", "__import__", "eval", "exec"))


if __name__ == "__main__":
    unittest.main()
