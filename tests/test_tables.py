"""Point 10.3: tables."""

import copy
import random
import unittest

from runsback.errors import NoDeeds, NoRow, NoRows, TooLong
from runsback.rows import net, power
from runsback.tables import is_product, product
from runsback.webs import basis, keeps, web_of
from tests.samples import (chance_product, chance_row, chance_rows, nets_up_to, odd_integers, odd_strings, odd_things,
                           slow_net)

ROWS = ["ab", "bb"]
WRONG_ROWS = odd_things() + odd_integers() + odd_strings() + ["c", "C", "abc"]


def table_nets(rows, table):
    """The nets of the lines of a table, row by row."""
    known = [net(row) for row in rows]
    for line in table:
        row = "".join([known[i - 1] if i > 0 else known[-i - 1].swapcase()[::-1] for i in line])
        known.append(net(row))
    return known[len(rows):]


class ProductTest(unittest.TestCase):
    def assertTable(self, deeds, rows, row, table):
        self.assertIs(type(table), tuple)
        self.assertTrue(1 <= len(table) <= 1000)
        for at, line in enumerate(table):
            self.assertIs(type(line), tuple)
            self.assertTrue(len(line) <= 1000)
            for number in line:
                self.assertIs(type(number), int)
                self.assertTrue(number != 0 and abs(number) <= len(rows) + at)
        nets = table_nets(rows, table)
        self.assertTrue(max([len(one) for one in nets]) <= 5000)
        self.assertEqual(nets[-1], net(row))
        self.assertIs(is_product(deeds, rows, row, table), True)

    def test_plain(self):
        for rows, row in [([], ""), ([], "aA"), (["a"], ""), (["a"], "a"), (["a"], "A"), (["a", "b"], "abAB"), (["aab", "ab"], "b"),
                          (["aaa", "aaaaa"], "a"), (["a" * 12, "a" * 7], "A"), (["abAB", "b"], "abA"), (("ab", "", "aA"), "abab"),
                          (["ab", "ab", "BA"], "BABA"), (["abc", "C"], "ab")]:
            deeds = "abc"
            self.assertTable(deeds, rows, row, product(deeds, rows, row))

    def test_none(self):
        for rows, row in [([], "a"), (["a"], "b"), (["aa"], "a"), (["aa", "bb"], "ab"), (["ab"], "ba"), (["", "bB"], "b"),
                          (["abAB"], "a"), (["aabb"], "aab"), (["aabb"], "aabba"), (["a" * 12, "a" * 8], "aa")]:
            self.assertIsNone(product("ab", rows, row))

    def test_by_chance(self):
        chance = random.Random(131)
        found = {True: 0, False: 0}
        for _ in range(250):
            deeds = chance.choice(["a", "ab", "abc"])
            rows = chance_rows(chance, deeds, chance.randint(0, 6), chance.choice([3, 6, 12]))
            made = chance_product(chance, rows, 12)
            self.assertTable(deeds, rows, made, product(deeds, rows, made))
            web = web_of(deeds, rows)
            for row in basis(web):
                self.assertTable(deeds, rows, row, product(deeds, rows, row))
            for row in nets_up_to(deeds, 2) + [chance_row(chance, deeds, 8)]:
                table = product(deeds, rows, row)
                self.assertEqual(table is not None, keeps(web, row))
                found[table is not None] += 1
                if table is not None:
                    self.assertTable(deeds, rows, row, table)
        self.assertTrue(found[True] > 500 and found[False] > 500)

    def test_long_rows(self):
        chance = random.Random(132)
        for _ in range(12):
            rows = chance_rows(chance, "ab", 6, 12)
            row = ""
            while len(net(row)) < 150:
                row += chance.choice(rows + [one.swapcase()[::-1] for one in rows])
            row = net(row)[:200]
            table = product("ab", rows, row)
            self.assertEqual(table is not None, keeps(web_of("ab", rows), row))
            whole = net(chance_product(chance, rows, 600))
            if len(whole) <= 5000:
                self.assertTable("ab", rows, whole, product("ab", rows, whole))

    def test_longest_rows(self):
        for rows, row in [(["a"], "a" * 5000), (["aab", "ab"], power("ab", 1000) + power("aB", 1000) + power("ab", 500)),
                          (["a", "b"], power("ab", 1000) + power("aB", 1000) + "b" * 1000), (["aaa", "aa"], "A" * 5000),
                          (["aaaaa"], "a" * 5000), (["ab", "ba", "aa"], power("abba", 1000) + power("BAaa", 500)[:1000]),
                          (["a" * 12, "a" * 11, "b"], power("a" * 5 + "b" * 5, 500)),
                          (["baB", "bab"], "b" + "a" * 4000 + "b" + "bab" * 332)]:
            self.assertTrue(len(net(row)) > 900)
            table = product("ab", rows, row)
            self.assertIsNotNone(table)
            self.assertTable("ab", rows, row, table)

    def test_just_so_many_numbers(self):
        for many in (999, 1000, 1001, 1500, 1999, 2000, 2001, 4999):
            self.assertTable("ab", ["a", "b"], "a" * many, product("ab", ["a", "b"], "a" * many))

    def test_a_piece_with_nearly_all_letters(self):
        # Along the web of the one row eleven letters of twelve are told by no integer.
        rows = ["a" * 11 + "b", "b"]
        row = ("a" * 11 + "b") * 300 + "b" * 1300
        self.assertTable("ab", rows, row, product("ab", rows, row))
        other = "b" * 1300 + row[:3600]
        self.assertTable("ab", rows, other, product("ab", rows, other))

    def test_errors(self):
        calls = [product, lambda deeds, rows, row: is_product(deeds, rows, row, ((),)),
                 lambda deeds, rows, row: is_product(deeds, rows, row, None)]
        for call in calls:
            for thing in odd_things() + odd_integers() + odd_strings() + ["", "ba", "aa", "abcde", "A"]:
                with self.assertRaises(NoDeeds):
                    call(thing, None, None)
            for thing in odd_things() + odd_integers() + odd_strings() + ["a", ["c"], ["a" * 13], ["a"] * 7, [None], ("a", 1)]:
                if thing not in ([], ()):
                    with self.assertRaises(NoRows):
                        call("ab", thing, None)
            for thing in WRONG_ROWS:
                with self.assertRaises(NoRow):
                    call("ab", ["a"], thing)

    def test_too_long(self):
        for rows in (["a"], ["b"], []):
            for row in ("a" * 5001, "a" * 6000, "b" * 2501 + "a" * 2500):
                with self.assertRaises(TooLong) as caught:
                    product("ab", rows, row)
                self.assertEqual(caught.exception.most, 5000)
                with self.assertRaises(TooLong):
                    is_product("ab", rows, row, None)
            with self.assertRaises(NoRow):
                product("ab", rows, "a" * 5001 + "c")
        self.assertIsNone(product("ab", ["b"], "a" * 5000))
        self.assertTable("ab", ["a"], "a" * 5001 + "A", product("ab", ["a"], "a" * 5001 + "A"))
        self.assertTable("ab", [], "a" * 3000 + "A" * 3000, product("ab", [], "a" * 3000 + "A" * 3000))


class IsProductTest(unittest.TestCase):
    def judged(self, row, thing, rows=ROWS):
        before = copy.deepcopy(thing)
        answer = is_product("ab", rows, row, thing)
        self.assertEqual(thing, before)
        return answer

    def test_right(self):
        for row, table in [("ab", ((1,),)), ("BA", ((-1,),)), ("", ((),)), ("aB", ((1, -2),)), ("aBaB", ((1, -2), (3, 3))),
                           ("bAbA", ((1, -2), (3, 3), (-4,))), ("ab", ((), (2, 2), (3, 1))), ("", ((1,), (3, -1))),
                           ("abab", ((1,), (2,), (3, 1), (5,))), ("ab", ((1,), (1,))), ("abB" + "b", ((1,),))]:
            self.assertIs(self.judged(row, table), True)
        self.assertIs(self.judged("ab", ((1,),), ("ab", "b")), True)
        self.assertIs(self.judged("", ((), ()), []), True)

    def test_another_net(self):
        for row, table in [("ab", ((2,),)), ("ab", ((-1,),)), ("", ((1,),)), ("a", ((),)), ("ab", ((1,), ())), ("ab", ((1,), (2,))),
                           ("aBaB", ((3, 3), (1, -2)))]:
            self.assertIs(self.judged(row, table), False)

    def test_integers_that_are_none(self):
        for number in (0, 3, -3, 4, 10 ** 59, -(10 ** 59), True, False, None, "1", (1,), [1], b"1"):
            self.assertIs(self.judged("ab", ((1, number),)), False)
            self.assertIs(self.judged("ab", ((number,), (1,))), False)
            self.assertIs(self.judged("ab", ((number, 1),)), False)

    def test_own_line_and_later_ones(self):
        for table in [((3,), (1,)), ((-3,), (1,)), ((4,), (1,)), ((1,), (4,)), ((1,), (3,), (5,)), ((4, -4), (1,)), ((), (3, 4, -4, 1))]:
            self.assertIs(self.judged("ab", table), False)
        self.assertIs(self.judged("ab", ((1,), (3,), (4,))), True)
        self.assertIs(self.judged("ab", ((1,), (-3,), (-4,))), True)

    def test_lists_and_tuples(self):
        for thing in ([(1,)], ([1],), [[1]], (1,), ((1,), [1]), ([1], (1,)), {0: (1,)}, (), [], ((1,), 1), ((1,), None), "1"):
            self.assertIs(self.judged("ab", thing), False)

    def test_no_lines(self):
        self.assertIs(is_product("ab", ["ab"], "ab", ()), False)
        self.assertIs(is_product("ab", [], "", ()), False)
        self.assertIs(is_product("ab", ["b", ""], "", ()), False)

    def test_many_lines(self):
        self.assertIs(self.judged("ab", ((),) * 999 + ((1,),)), True)
        self.assertIs(self.judged("ab", ((),) * 1000 + ((1,),)), False)
        self.assertIs(self.judged("ab", ((1,),) * 1000), True)
        self.assertIs(self.judged("ab", ((1,),) * 1001), False)

    def test_many_integers(self):
        self.assertIs(self.judged("", ((1, -1) * 500,)), True)
        self.assertIs(self.judged("ab", ((1,) + (1, -1) * 500,)), False)
        self.assertIs(self.judged("ab", ((1, -1) * 500, (1, -1) * 499 + (3, 1))), True)
        self.assertIs(self.judged("ab", ((1, -1) * 500 + (1,), (1,))), False)
        self.assertIs(self.judged("ab" * 1000, ((1,) * 1000,)), True)

    def test_long_nets(self):
        rows = ["a" * 10, "a"]
        table = ((1,) * 100, (3,) * 5)
        self.assertIs(self.judged("a" * 5000, table, rows), True)
        self.assertIs(self.judged("a", table + ((4, -4, 2),), rows), True)
        self.assertIs(self.judged("a", table + ((4, 2), (5, -4)), rows), False)
        self.assertIs(self.judged("a" * 4999, table + ((4, -2),), rows), True)
        self.assertIs(self.judged("A", ((1,) * 1000, (2,)), rows), False)
        self.assertIs(self.judged("A", table + ((4, 4, -4, -4, -2),), rows), True)
        self.assertIs(self.judged("A", table + ((-4, -2), (-2,)), rows), False)
        self.assertIs(self.judged("A", table + ((-4,), (-2,)), rows), True)

    def test_odd_things(self):
        for thing in odd_things() + odd_integers() + odd_strings():
            if thing != ((), ()) and thing != ((),):
                self.assertIs(is_product("ab", ROWS, "", thing), False)
            self.assertIs(is_product("ab", ROWS, "ab", thing), False)
            if thing not in ((), (1, 2)):
                self.assertIs(is_product("ab", ROWS, "ab", (thing, (1,))), False)
            if type(thing) is not int or abs(thing) > 2 or thing == 0:
                self.assertIs(is_product("ab", ROWS, "ab", ((1, thing),)), False)

    def test_spoiled_by_chance(self):
        chance = random.Random(133)
        for _ in range(60):
            rows = chance_rows(chance, "ab", 3, 5)
            row = chance_product(chance, rows, 6)
            table = product("ab", rows, row)
            at = chance.randrange(len(table))
            line = list(table[at])
            line.insert(chance.randint(0, len(line)), chance.choice([1, 2, 3, -1, -2, -3]))
            spoiled = table[:at] + (tuple(line),) + table[at + 1:]
            right = table_nets(rows, spoiled)[-1] == slow_net(row)
            self.assertIs(is_product("ab", rows, row, spoiled), right)
