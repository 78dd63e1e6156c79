"""Point 10.4: homes."""

import random
import unittest

from runsback.errors import NoDeeds, NoDenied, NoRows
from runsback.homes import home, is_home
from runsback.rows import net
from runsback.webs import keeps, web_of
from runsback.worlds import World, beside
from tests.samples import (chance_product, chance_row, chance_rows, odd_integers, odd_strings, odd_things, slow_led)

TWO = World("ab", {"a": (1, 0), "b": (0, 1)})


class HomeTest(unittest.TestCase):
    def assertHome(self, deeds, rows, denied, world):
        self.assertIs(type(world), World)
        self.assertEqual(world.deeds, deeds)
        for deed in deeds:
            self.assertEqual(sorted(world.moves[deed]), list(range(world.size)))
        for row in rows:
            self.assertEqual(slow_led(world, 0, row), 0)
        for row in denied:
            self.assertNotEqual(slow_led(world, 0, row), 0)
        self.assertIs(is_home(deeds, rows, denied, world), True)

    def test_plain(self):
        for deeds, rows, denied in [("a", [], []), ("ab", [], ["a"]), ("ab", ["a"], ["b"]), ("ab", ["aa"], ["a", "b", "A"]),
                                    ("ab", ("ab", "BA"), ("ba",)), ("ab", ["aabb"], ["a", "aa", "aab", "bb", "bA", "abab"]),
                                    ("abcd", ["abcd"], ["d", "dcba"]), ("a", [], ["a" * 60]), ("ab", ["", "aA"], ["abAB"]),
                                    ("ab", ["b", "aa", "abA"], ["ab" * 15]), ("ab", ["a"], ["abBbB" + "b" * 5])]:
            self.assertHome(deeds, rows, denied, home(deeds, rows, denied))

    def test_none(self):
        for rows, denied in [([], [""]), ([], ["a", "aA"]), (["a"], ["a"]), (["a"], ["b", "A"]), (["aa", "aaa"], ["b", "a"]),
                             (["aabb"], ["a", "BBAA"]), (["ab", "bb"], ["aBaB"]), (("a", "b"), ("abABab" * 10,))]:
            self.assertIsNone(home("ab", rows, denied))

    def test_by_chance(self):
        chance = random.Random(141)
        found = {True: 0, False: 0}
        for _ in range(300):
            deeds = chance.choice(["a", "ab", "bcd"])
            rows = chance_rows(chance, deeds, chance.randint(0, 6), chance.choice([2, 5, 12]))
            denied = chance_rows(chance, deeds, chance.randint(0, 3), chance.choice([3, 10, 60]))
            if chance.random() < 0.3:
                denied += [net(chance_product(chance, rows, 5))[:60], chance_row(chance, deeds, 60)]
            web = web_of(deeds, rows)
            world = home(deeds, rows, denied)
            self.assertEqual(world is None, any([keeps(web, row) for row in denied]))
            found[world is None] += 1
            if world is not None:
                self.assertHome(deeds, rows, denied, world)
                self.assertTrue(world.size <= web.size + sum([len(row) for row in denied]))
        self.assertTrue(found[True] > 50 and found[False] > 50)

    def test_more_than_24(self):
        rows = ["aba" * 4, "bbaabb", "abAB" * 3]
        denied = ["ab" * 30, "a" * 60, "b" * 60, "aB" * 30, "aabb" * 15, "bA" * 30]
        world = home("ab", rows, denied)
        self.assertTrue(world.size > 24)
        self.assertHome("ab", rows, denied, world)

    def test_bounds(self):
        self.assertHome("a", ["aa"], ["a" * 59] * 6, home("a", ["aa"], ["a" * 59] * 6))
        self.assertIsNone(home("a", ["aa"], ["a" * 60] * 6))

    def test_errors(self):
        calls = [home, lambda deeds, rows, denied: is_home(deeds, rows, denied, TWO),
                 lambda deeds, rows, denied: is_home(deeds, rows, denied, None)]
        for call in calls:
            for thing in odd_things() + odd_integers() + odd_strings() + ["", "ba", "aa", "abcde", "A"]:
                with self.assertRaises(NoDeeds):
                    call(thing, None, None)
            for thing in odd_things() + odd_integers() + odd_strings() + ["a", ["c"], ["a" * 13], ["a"] * 7, [None], ("a", 1)]:
                if thing not in ([], ()):
                    with self.assertRaises(NoRows):
                        call("ab", thing, None)
            for thing in odd_things() + odd_integers() + odd_strings() + ["a", ["c"], ["a" * 61], ["a"] * 7, [None], ("a", 1),
                                                                         {"a": "a"}, ["a", "b" * 61], ["a1"]]:
                if thing not in ([], ()):
                    with self.assertRaises(NoDenied):
                        call("ab", ["b"], thing)


class IsHomeTest(unittest.TestCase):
    def test_right(self):
        self.assertIs(is_home("ab", ["aa", "b"], ["a", "bA"], TWO), True)
        self.assertIs(is_home("ab", [], [], TWO), True)
        self.assertIs(is_home("ab", [], [], World("ab", {"a": (0,), "b": (0,)})), True)
        self.assertIs(is_home("ab", ("aa",), ("a",), beside(TWO, TWO)), True)

    def test_wrong(self):
        self.assertIs(is_home("ab", ["aa", "a"], [], TWO), False)
        self.assertIs(is_home("ab", ["a", "aa"], [], TWO), False)
        self.assertIs(is_home("ab", ["aa"], ["a", "b"], TWO), False)
        self.assertIs(is_home("ab", ["aa"], ["b", "a"], TWO), False)
        self.assertIs(is_home("ab", [], [""], TWO), False)
        self.assertIs(is_home("ab", [], ["a"], World("ab", {"a": (0, 2, 1), "b": (0, 1, 2)})), False)

    def test_where_0_is_led_alone_counts(self):
        world = World("ab", {"a": (0, 2, 1), "b": (1, 0, 2)})
        self.assertIs(is_home("ab", ["a"], ["b"], world), True)
        self.assertIs(is_home("ab", ["bb"], ["ba"], world), True)

    def test_other_deeds(self):
        self.assertIs(is_home("a", ["aa"], ["a"], TWO), False)
        self.assertIs(is_home("abc", ["aa"], ["a"], TWO), False)
        self.assertIs(is_home("ac", [], [], TWO), False)
        self.assertIs(is_home("a", ["aa"], ["a"], World("a", {"a": (1, 0)})), True)

    def test_other_things(self):
        for thing in odd_things() + odd_integers() + odd_strings() + [TWO.moves, [TWO], (TWO,), web_of("ab", ["a"])]:
            if not (isinstance(thing, World) and thing.deeds == "ab"):
                self.assertIs(is_home("ab", ["aa", "b"], ["a"], thing), False)
                self.assertIs(is_home("ab", [], [], thing), False)
