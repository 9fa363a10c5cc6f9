"""[1]: nothing handed in is changed or kept; lists handed out are new ones."""

import ast
import unittest
from pathlib import Path

import millshare
from millshare.errors import MillError
from millshare.joins import joined, taken_out
from millshare.mills import Mill
from tests.plain import told

ROWS = [(3, -2), (1, -2), (4, 0)]


class HandedInTest(unittest.TestCase):
    def test_stretches_stay_as_they_were(self):
        rows = list(ROWS)
        told(Mill(5, rows))
        self.assertEqual(rows, ROWS)

    def test_stretches_of_a_refused_mill_stay_as_they_were(self):
        for bad in ((0, 9), (1, -1)):
            rows = [*ROWS, bad]
            with self.assertRaises(MillError):
                Mill(5, rows)
            self.assertEqual(rows, [*ROWS, bad])

    def test_changed_stretches_do_not_change_the_mill(self):
        for given in (list(ROWS), [(4, -2), (4, 0)], []):
            wanted = told(Mill(5, list(given)))
            rows = list(given)
            mill = Mill(5, rows)
            rows.append((2, 9))
            rows[0] = (7, -7)
            self.assertEqual(told(mill), wanted)

    def test_joined_mills_and_their_list_stay_as_they_were(self):
        mills = [Mill(1, [(2, 5), (1, 6)]), Mill(2, [(2, 3), (1, 5)]), Mill(3, [])]
        before = [told(mill) for mill in mills]
        held = list(mills)
        joined(mills)
        self.assertEqual(mills, held)
        self.assertEqual([told(mill) for mill in mills], before)

    def test_a_changed_list_of_mills_does_not_change_the_joined_one(self):
        mills = [Mill(1, [(2, 5), (1, 6)]), Mill(2, [(2, 3)])]
        one = joined(mills)
        before = told(one)
        mills.pop()
        mills.append(Mill(7, [(1, 1)]))
        self.assertEqual(told(one), before)

    def test_whole_and_part_stay_as_they_were(self):
        whole, part = Mill(1, [(3, 5), (1, 6)]), Mill(2, [(1, 5), (1, 6)])
        before = told(whole), told(part)
        taken_out(whole, part)
        self.assertEqual((told(whole), told(part)), before)

    def test_what_comes_of_mills_is_another_mill(self):
        mill = Mill(1, [(3, 5)])
        for other in (joined([mill]), taken_out(mill, Mill(0, []))):
            self.assertIsNot(other, mill)
            self.assertIsNot(other.stretches, mill.stretches)


class RefusedTest(unittest.TestCase):
    def test_a_refused_number_leaves_the_mill(self):
        mill = Mill(1, [(3, 5), (1, 6)])
        before = told(mill)
        for ask in (mill.cost, mill.piece):
            for number in (-1, 5):
                with self.assertRaises(MillError):
                    ask(number)
        self.assertEqual(told(mill), before)

    def test_a_refused_part_leaves_both(self):
        whole, part = Mill(1, [(3, 5), (1, 6)]), Mill(2, [(1, 5), (2, 6)])
        before = told(whole), told(part)
        with self.assertRaises(MillError):
            taken_out(whole, part)
        self.assertEqual((told(whole), told(part)), before)

    def test_a_refused_join_leaves_the_list(self):
        mills = []
        with self.assertRaises(MillError):
            joined(mills)
        self.assertEqual(mills, [])


class HandedOutTest(unittest.TestCase):
    def test_changed_prices_change_nothing(self):
        for rows in ([], [(3, 5), (1, 6)]):
            mill = Mill(1, rows)
            before = told(mill)
            prices = mill.prices()
            prices.append(9)
            prices[0] = -9
            self.assertEqual(told(mill), before)

    def test_prices_are_a_new_list_each_time(self):
        for rows in ([], [(3, 5), (1, 6)]):
            mill = Mill(1, rows)
            self.assertIsNot(mill.prices(), mill.prices())

    def test_what_is_told_does_not_hang_on_the_list_that_was_read(self):
        mill = Mill(1, [(3, 5), (1, 6)])
        before = told(mill)[1:]
        mill.stretches.clear()
        self.assertEqual(told(mill)[1:], before)
        self.assertEqual(joined([mill]).stretches, [(3, 5), (1, 6)])
        self.assertEqual(taken_out(mill, Mill(0, [(3, 5)])).stretches, [(1, 6)])

    def test_mills_that_come_of_others_share_no_list(self):
        mill = Mill(1, [(3, 5)])
        other = joined([mill])
        other.stretches.append((1, 9))
        self.assertEqual(mill.stretches, [(3, 5)])


class OutsideTest(unittest.TestCase):
    """No clock, chance or files: nothing is imported but the package's own."""

    def test_imports_and_calls(self):
        files = sorted(Path(millshare.__file__).parent.rglob("*.py"))
        self.assertGreaterEqual(len(files), 4)
        for file in files:
            for node in ast.walk(ast.parse(file.read_text())):
                with self.subTest(file=file.name):
                    self.assertNotIsInstance(node, ast.Import)
                    if isinstance(node, ast.ImportFrom):
                        self.assertTrue(node.module.startswith("millshare."))
                    if isinstance(node, ast.Name):
                        self.assertNotIn(node.id, ("open", "input", "__import__", "eval", "exec"))


if __name__ == "__main__":
    unittest.main()
