"""Names, arguments, fields and kinds of values, as the interface writes them."""

import inspect
import unittest

from millshare import backs, joins, mills, notes, shares
from millshare.mills import Mill
from millshare.works import Works


def arguments(function):
    return list(inspect.signature(function).parameters)


class InterfaceTest(unittest.TestCase):
    def test_mill_is_defined_in_mills(self):
        self.assertEqual(Mill.__module__, "millshare.mills")
        self.assertEqual(arguments(mills.Mill), ["base", "stretches"])

    def test_methods_stand_in_the_class_itself(self):
        wanted = {
            "cost": ["self", "many"],
            "piece": ["self", "number"],
            "by_price": ["self", "price"],
            "gain": ["self", "price"],
            "prices": ["self"],
        }
        for name, names in wanted.items():
            with self.subTest(name=name):
                self.assertIn(name, vars(Mill))
                self.assertEqual(arguments(vars(Mill)[name]), names)

    def test_functions_are_defined_in_their_files(self):
        wanted = {
            joins: {"joined": ["mills"], "taken_out": ["whole", "part"]},
            shares: {
                "shares": ["mills", "many"],
                "cost_of": ["mills", "numbers"],
                "better": ["mills", "numbers"],
            },
            backs: {"back": ["mill", "prices", "many"]},
            notes: {"written": ["mill"], "read": ["text"]},
        }
        for module, functions in wanted.items():
            for name, names in functions.items():
                with self.subTest(name=name):
                    function = getattr(module, name)
                    self.assertEqual(function.__module__, module.__name__)
                    self.assertEqual(arguments(function), names)

    def test_works_are_defined_with_all_their_methods(self):
        self.assertEqual(Works.__module__, "millshare.works")
        self.assertEqual(arguments(Works), [])
        wanted = {
            "open_mill": ["self", "name", "mill"],
            "close_mill": ["self", "name"],
            "want": ["self", "many"],
            "told": ["self"],
            "cost": ["self"],
            "wanted": ["self"],
        }
        for name, names in wanted.items():
            with self.subTest(name=name):
                self.assertIn(name, vars(Works))
                self.assertEqual(arguments(vars(Works)[name]), names)

    def test_fields_are_set_on_each_object(self):
        for rows in ([], [(2, 3)]):
            mill = Mill(1, rows)
            self.assertLessEqual({"base", "stretches", "size"}, set(vars(mill)))
            self.assertIs(type(mill.base), int)
            self.assertIs(type(mill.stretches), list)
            self.assertIs(type(mill.size), int)

    def test_stretches_are_pairs(self):
        for pair in Mill(1, [(2, 3), (1, 3), (4, 5)]).stretches:
            self.assertIs(type(pair), tuple)
            self.assertEqual([type(number) for number in pair], [int, int])

    def test_kinds_of_what_is_told(self):
        for mill in (Mill(1, []), Mill(1, [(2, 3)])):
            self.assertIs(type(mill.cost(mill.size)), int)
            self.assertIs(type(mill.by_price(3)), tuple)
            self.assertEqual([type(n) for n in mill.by_price(3)], [int, int])
            self.assertIs(type(mill.gain(3)), int)
            self.assertIs(type(mill.prices()), list)
            self.assertIs(type(joins.joined([mill])), Mill)
            self.assertIs(type(joins.taken_out(mill, mill)), Mill)
        self.assertIs(type(Mill(1, [(2, 3)]).piece(1)), int)

    def test_kinds_of_what_the_functions_tell(self):
        for mill in (Mill(1, []), Mill(1, [(2, 3)])):
            told = shares.shares([mill, mill], mill.size)
            self.assertIs(type(told), list)
            self.assertEqual([type(number) for number in told], [int, int])
            self.assertIs(type(shares.cost_of([mill, mill], told)), int)
            self.assertIs(type(backs.back(mill, [1], 0)), int)
            self.assertIs(type(notes.written(mill)), str)
            self.assertIs(type(notes.read(notes.written(mill))), Mill)
        move = shares.better([Mill(0, [(1, 5)]), Mill(0, [(1, 2)])], [1, 0])
        self.assertIs(type(move), tuple)
        self.assertEqual([type(place) for place in move], [int, int])

    def test_kinds_of_what_works_tell(self):
        works = Works()
        for count in range(3):
            self.assertIs(type(works.told()), dict)
            for name, number in works.told().items():
                self.assertEqual((type(name), type(number)), (str, int))
            self.assertIs(type(works.cost()), int)
            self.assertIs(type(works.wanted()), int)
            self.assertIsNone(works.open_mill("a" * (count + 1), Mill(1, [(2, 3)])))
            self.assertIsNone(works.want(count))
        self.assertIs(type(works.close_mill("a")), Mill)

    def test_arguments_by_keyword(self):
        mill = Mill(base=1, stretches=[(2, 3)])
        self.assertEqual(mill.cost(many=1), 4)
        self.assertEqual(mill.piece(number=1), 3)
        self.assertEqual(mill.by_price(price=3), (0, 2))
        self.assertEqual(mill.gain(price=4), 1)
        self.assertEqual(joins.joined(mills=[mill]).base, 1)
        self.assertEqual(joins.taken_out(whole=mill, part=mill).base, 0)
        self.assertEqual(shares.shares(mills=[mill], many=1), [1])
        self.assertEqual(shares.cost_of(mills=[mill], numbers=[1]), 4)
        self.assertIsNone(shares.better(mills=[mill], numbers=[1]))
        self.assertEqual(backs.back(mill=mill, prices=[3], many=1), 4)
        self.assertEqual(notes.written(mill=mill), "1: 2x3")
        self.assertEqual(notes.read(text="1: 2x3").size, 2)

    def test_arguments_of_works_by_keyword(self):
        works = Works()
        works.open_mill(name="a", mill=Mill(base=1, stretches=[(2, 3)]))
        works.want(many=0)
        self.assertEqual(works.close_mill(name="a").base, 1)


if __name__ == "__main__":
    unittest.main()
