"""Works: mills opened and closed by names, and what is wanted of them."""

import unittest

from millshare.errors import NoCount, NoName
from millshare.joins import joined
from millshare.mills import Mill
from millshare.shares import cost_of, shares
from millshare.works import Works
from tests.plain import few_lists, fields

HUGE = 10 ** 39
# Past what Python itself is willing to write in figures.
BEYOND = 10 ** 5000

ONE = Mill(5, [(3, -2), (4, 4)])
TWO = Mill(-7, [(1, -3), (2, 0), (6, 9)])
NONE = Mill(2, [])

NO_NAMES = ("", "abcdefghi", "z" * 40, "A", "aB", "Z", "a1", "1", " ", "a ", " a", "a b", "a-b",
            "a_b", "`", "{", "ab:", "~", "a.b", "@", "[")


def all_of(works):
    """All that works tell; the order of the dict counts, too."""
    return list(works.told().items()), works.cost(), works.wanted()


def works_of(mills, many=0):
    """Works of mills by names, with a number of pieces that is wanted."""
    works = Works()
    for name, mill in mills.items():
        works.open_mill(name, mill)
    works.want(many)
    return works


class WithoutMillsTest(unittest.TestCase):
    """[10], no mills"""

    def test_new_works(self):
        works = Works()
        self.assertEqual(works.told(), {})
        self.assertEqual(works.cost(), 0)
        self.assertEqual(works.wanted(), 0)

    def test_nought_is_wanted(self):
        works = Works()
        self.assertIsNone(works.want(0))
        self.assertEqual(all_of(works), ([], 0, 0))

    def test_any_other_number_is_refused(self):
        works = Works()
        for many in (-1, 1, HUGE, -BEYOND, BEYOND):
            with self.assertRaises(NoCount):
                works.want(many)
            self.assertEqual(all_of(works), ([], 0, 0))

    def test_all_closed_again(self):
        works = works_of({"a": ONE, "b": TWO})
        works.close_mill("a")
        works.close_mill("b")
        self.assertEqual(all_of(works), ([], 0, 0))

    def test_works_do_not_share_their_mills(self):
        one, two = Works(), Works()
        one.open_mill("a", ONE)
        one.want(3)
        self.assertEqual(all_of(two), ([], 0, 0))
        two.open_mill("a", TWO)
        self.assertEqual(all_of(one), ([("a", 3)], -1, 3))


class ToldTest(unittest.TestCase):
    """[10], shares and what they cost"""

    def test_ordinary(self):
        works = works_of({"one": ONE, "two": TWO})
        wanted = {
            0: ([("one", 0), ("two", 0)], -2, 0),
            4: ([("one", 3), ("two", 1)], -11, 4),
            11: ([("one", 7), ("two", 4)], 14, 11),
            16: ([("one", 7), ("two", 9)], 59, 16),
            7: ([("one", 4), ("two", 3)], -7, 7),
        }
        for many, row in wanted.items():
            self.assertIsNone(works.want(many))
            self.assertEqual(all_of(works), row)

    def test_of_like_costs_the_mill_opened_first_makes_most(self):
        works = works_of({"z": Mill(0, [(2, 1)]), "a": Mill(0, [(2, 1)])}, 3)
        self.assertEqual(list(works.told().items()), [("z", 2), ("a", 1)])

    def test_the_same_mill_by_several_names(self):
        works = works_of({"c": ONE, "a": ONE, "b": ONE}, 7)
        self.assertEqual(all_of(works), ([("c", 3), ("a", 3), ("b", 1)], 15 - 14, 7))

    def test_a_mill_that_is_opened_adds_its_base_and_takes_its_share(self):
        works = works_of({"one": ONE}, 7)
        self.assertEqual(all_of(works), ([("one", 7)], 15, 7))
        self.assertIsNone(works.open_mill("none", NONE))
        self.assertEqual(all_of(works), ([("one", 7), ("none", 0)], 17, 7))
        self.assertIsNone(works.open_mill("two", TWO))
        self.assertEqual(all_of(works), ([("one", 4), ("none", 0), ("two", 3)], -5, 7))

    def test_huge_numbers(self):
        works = works_of({"a": Mill(1, [(HUGE, 2)]), "b": Mill(0, [(HUGE, 1)])}, HUGE + 1)
        self.assertEqual(all_of(works), ([("a", 1), ("b", HUGE)], HUGE + 3, HUGE + 1))
        works.want(2 * HUGE)
        self.assertEqual(all_of(works), ([("a", HUGE), ("b", HUGE)], 3 * HUGE + 1, 2 * HUGE))

    def test_six_mills_of_thirty_stretches(self):
        mills = {name: Mill(k, [(10 ** 38 + j, 6 * j + k) for j in range(30)])
                 for k, name in enumerate("fedcba")}
        whole = joined(list(mills.values()))
        for many in (0, whole.size // 3, whole.size):
            works = works_of(mills, many)
            self.assertEqual(list(works.told()), list("fedcba"))
            self.assertEqual(list(works.told().values()), shares(list(mills.values()), many))
            self.assertEqual(works.cost(), whole.cost(many))

    def test_a_few_mills(self):
        for mills in few_lists():
            works = works_of(dict(zip("cab", mills)))
            for many in range(sum(mill.size for mill in mills) + 1):
                works.want(many)
                numbers = shares(mills, many)
                wanted = list(zip("cab", numbers)), cost_of(mills, numbers), many
                self.assertEqual(all_of(works), wanted)


class NamesTest(unittest.TestCase):
    """[10], names"""

    def test_names_of_one_and_of_eight_letters(self):
        works = Works()
        for name in ("a", "z", "abcdefgh", "zzzzzzzz"):
            works.open_mill(name, NONE)
        self.assertEqual(list(works.told()), ["a", "z", "abcdefgh", "zzzzzzzz"])
        self.assertEqual(fields(works.close_mill("abcdefgh")), fields(NONE))
        self.assertEqual(list(works.told()), ["a", "z", "zzzzzzzz"])

    def test_each_letter_is_one(self):
        for letter in "abcdefghijklmnopqrstuvwxyz":
            works = works_of({letter: NONE, letter * 2: NONE})
            self.assertEqual(works.told(), {letter: 0, letter * 2: 0})

    def test_what_is_no_name_is_not_opened(self):
        works = works_of({"a": ONE, "b": TWO}, 5)
        before = all_of(works)
        for name in NO_NAMES:
            with self.subTest(name=name), self.assertRaises(NoName):
                works.open_mill(name, NONE)
            self.assertEqual(all_of(works), before)

    def test_no_other_sign_is_a_letter(self):
        letters = "abcdefghijklmnopqrstuvwxyz"
        for sign in [chr(code) for code in range(32, 127) if chr(code) not in letters]:
            for name in (sign, sign + "a", "a" + sign, "ab" + sign + "cd"):
                with self.subTest(name=name), self.assertRaises(NoName):
                    Works().open_mill(name, NONE)

    def test_a_name_that_stands_is_not_opened(self):
        works = works_of({"a": ONE, "b": TWO}, 5)
        before = all_of(works)
        for name in ("a", "b"):
            for mill in (ONE, TWO, NONE):
                with self.assertRaises(NoName):
                    works.open_mill(name, mill)
                self.assertEqual(all_of(works), before)

    def test_a_name_that_does_not_stand_is_not_closed(self):
        works = works_of({"a": ONE, "bb": TWO}, 5)
        before = all_of(works)
        for name in ("c", "b", "bbb", "ab", *NO_NAMES):
            with self.subTest(name=name), self.assertRaises(NoName):
                works.close_mill(name)
            self.assertEqual(all_of(works), before)
        with self.assertRaises(NoName):
            Works().close_mill("a")

    def test_a_name_that_was_closed_does_not_stand(self):
        works = works_of({"a": ONE, "b": TWO})
        works.close_mill("a")
        before = all_of(works)
        with self.assertRaises(NoName):
            works.close_mill("a")
        self.assertEqual(all_of(works), before)

    def test_no_name_goes_ahead_of_no_count(self):
        # Whichever mill went, the rest could not make what is wanted.
        works = works_of({"a": ONE, "b": TWO}, 16)
        for name in ("c", "", "A", "abcdefghi"):
            with self.assertRaises(NoName):
                works.close_mill(name)


class CloseTest(unittest.TestCase):
    """[10], closing"""

    def test_told_is_the_mill(self):
        works = works_of({"a": ONE, "b": TWO, "c": NONE})
        for name, mill in (("b", TWO), ("c", NONE), ("a", ONE)):
            self.assertEqual(fields(works.close_mill(name)), fields(mill))

    def test_the_others_make_what_is_wanted(self):
        works = works_of({"a": ONE, "b": TWO}, 7)
        works.close_mill("b")
        self.assertEqual(all_of(works), ([("a", 7)], 15, 7))
        works = works_of({"a": ONE, "b": TWO}, 9)
        works.close_mill("a")
        self.assertEqual(all_of(works), ([("b", 9)], 44, 9))

    def test_closed_and_opened_again_stands_last(self):
        works = works_of({"a": ONE, "b": TWO, "c": ONE}, 3)
        self.assertEqual(all_of(works)[0], [("a", 2), ("b", 1), ("c", 0)])
        works.open_mill("d", works.close_mill("a"))
        self.assertEqual(all_of(works)[0], [("b", 1), ("c", 2), ("d", 0)])
        works.open_mill("a", works.close_mill("c"))
        self.assertEqual(all_of(works)[0], [("b", 1), ("d", 2), ("a", 0)])
        works.open_mill("a", works.close_mill("a"))
        works.open_mill("b", works.close_mill("b"))
        self.assertEqual(all_of(works)[0], [("d", 2), ("a", 0), ("b", 1)])

    def test_closed_and_opened_as_another_mill(self):
        works = works_of({"a": ONE, "b": ONE}, 2)
        works.close_mill("a")
        works.open_mill("a", TWO)
        self.assertEqual(all_of(works), ([("b", 1), ("a", 1)], -7, 2))
        self.assertEqual(fields(works.close_mill("a")), fields(TWO))

    def test_refused_where_the_others_could_not_make_what_is_wanted(self):
        works = works_of({"a": ONE, "b": TWO, "c": NONE})
        for name, rest in (("a", 9), ("b", 7)):
            for many in range(rest + 1, 17):
                works.want(many)
                before = all_of(works)
                with self.assertRaises(NoCount):
                    works.close_mill(name)
                self.assertEqual(all_of(works), before)
                works.open_mill("c", works.close_mill("c"))
                self.assertEqual(all_of(works), before)

    def test_closed_where_the_others_can_just_make_it(self):
        for name, rest in (("a", 9), ("b", 7)):
            works = works_of({"a": ONE, "b": TWO, "c": NONE}, rest)
            works.close_mill(name)
            self.assertEqual(sum(works.told().values()), rest)

    def test_the_last_mill(self):
        works = works_of({"a": ONE}, 1)
        before = all_of(works)
        with self.assertRaises(NoCount):
            works.close_mill("a")
        self.assertEqual(all_of(works), before)
        works.want(0)
        self.assertEqual(fields(works.close_mill("a")), fields(ONE))
        self.assertEqual(all_of(works), ([], 0, 0))

    def test_huge_numbers(self):
        works = works_of({"a": Mill(0, [(HUGE, 2)]), "b": Mill(0, [(HUGE - 1, 1)])}, HUGE)
        before = all_of(works)
        with self.assertRaises(NoCount):
            works.close_mill("a")
        self.assertEqual(all_of(works), before)
        works.close_mill("b")
        self.assertEqual(all_of(works), ([("a", HUGE)], 2 * HUGE, HUGE))


class WantTest(unittest.TestCase):
    """[10], what is wanted"""

    def test_other_numbers_are_refused(self):
        for mills in ({"a": NONE}, {"a": ONE}, {"a": ONE, "b": TWO}, {"a": Mill(0, [(HUGE, 1)])}):
            size = sum(mill.size for mill in mills.values())
            works = works_of(mills, size // 2)
            before = all_of(works)
            for many in (-1, -2, -HUGE, -BEYOND, size + 1, size + HUGE, BEYOND):
                with self.subTest(size=size), self.assertRaises(NoCount):
                    works.want(many)
                self.assertEqual(all_of(works), before)

    def test_what_was_closed_does_not_count(self):
        works = works_of({"a": ONE, "b": TWO})
        works.close_mill("b")
        with self.assertRaises(NoCount):
            works.want(8)
        works.want(7)
        works.open_mill("b", TWO)
        works.want(16)
        self.assertEqual(works.wanted(), 16)


if __name__ == "__main__":
    unittest.main()
