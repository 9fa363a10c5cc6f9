"""Names, arguments, fields and kinds of values, as the interface writes them."""

import inspect
import unittest

from millshare import joins, mills
from millshare.mills import Mill


def arguments(function):
    return list(inspect.signature(function).parameters)


class InterfaceTest(unittest.TestCase):
    def test_mill_is_defined_in_mills(self):
        self.assertEqual(Mill.__module__, "millshare.mills")
        self.assertEqual(arguments(mills.Mill), ["base", "stretches"])

    def test_methods_stand_in_the_class_itself(self):
        wanted = {
            "cost": ["self", "many"],
            "piece": ["self", "number"],
            "by_price": ["self", "price"],
            "gain": ["self", "price"],
            "prices": ["self"],
        }
        for name, names in wanted.items():
            with self.subTest(name=name):
                self.assertIn(name, vars(Mill))
                self.assertEqual(arguments(vars(Mill)[name]), names)

    def test_functions_are_defined_in_joins(self):
        wanted = {"joined": ["mills"], "taken_out": ["whole", "part"]}
        for name, names in wanted.items():
            with self.subTest(name=name):
                self.assertEqual(getattr(joins, name).__module__, "millshare.joins")
                self.assertEqual(arguments(getattr(joins, name)), names)

    def test_fields_are_set_on_each_object(self):
        for rows in ([], [(2, 3)]):
            mill = Mill(1, rows)
            self.assertLessEqual({"base", "stretches", "size"}, set(vars(mill)))
            self.assertIs(type(mill.base), int)
            self.assertIs(type(mill.stretches), list)
            self.assertIs(type(mill.size), int)

    def test_stretches_are_pairs(self):
        for pair in Mill(1, [(2, 3), (1, 3), (4, 5)]).stretches:
            self.assertIs(type(pair), tuple)
            self.assertEqual([type(number) for number in pair], [int, int])

    def test_kinds_of_what_is_told(self):
        for mill in (Mill(1, []), Mill(1, [(2, 3)])):
            self.assertIs(type(mill.cost(mill.size)), int)
            self.assertIs(type(mill.by_price(3)), tuple)
            self.assertEqual([type(n) for n in mill.by_price(3)], [int, int])
            self.assertIs(type(mill.gain(3)), int)
            self.assertIs(type(mill.prices()), list)
            self.assertIs(type(joins.joined([mill])), Mill)
            self.assertIs(type(joins.taken_out(mill, mill)), Mill)
        self.assertIs(type(Mill(1, [(2, 3)]).piece(1)), int)

    def test_arguments_by_keyword(self):
        mill = Mill(base=1, stretches=[(2, 3)])
        self.assertEqual(mill.cost(many=1), 4)
        self.assertEqual(mill.piece(number=1), 3)
        self.assertEqual(mill.by_price(price=3), (0, 2))
        self.assertEqual(mill.gain(price=4), 1)
        self.assertEqual(joins.joined(mills=[mill]).base, 1)
        self.assertEqual(joins.taken_out(whole=mill, part=mill).base, 0)


if __name__ == "__main__":
    unittest.main()
