"""Points 1.1 and 1.2: rows and nets."""

import random
import unittest

from runsback.errors import NoNumber, NoRoot, NoRow
from runsback.rows import earlier, joined, net, power, root, turned, undone
from tests.samples import LETTERS, chance_row, flipped, nets_up_to, odd_integers, odd_strings, odd_things, slow_net

ALL = "abcdefghijklmnopqrstuvwxyz"


def no_rows():
    return odd_things() + odd_integers() + odd_strings()


def chance_rows(seed, many, deeds, most):
    chance = random.Random(seed)
    return [chance_row(chance, deeds, most) for _ in range(many)]


class NetTest(unittest.TestCase):
    def test_example(self):
        self.assertEqual(net("abBAb"), "b")

    def test_plain(self):
        for row, told in [("", ""), ("a", "a"), ("aA", ""), ("Aa", ""), ("aa", "aa"), ("ab", "ab"), ("aAa", "a"),
                          ("abBA", ""), ("aBbA", ""), ("abAB", "abAB"), ("zZyYx", "x"), ("aAbBcC", ""), ("abcCBAd", "d")]:
            self.assertEqual(net(row), told)

    def test_by_chance(self):
        for row in chance_rows(1, 300, "ab", 12) + chance_rows(2, 40, "abcd", 200) + chance_rows(3, 20, ALL, 200):
            self.assertEqual(net(row), slow_net(row))

    def test_long(self):
        self.assertEqual(net("ab" * 100), "ab" * 100)
        self.assertEqual(net("ab" * 50 + "BA" * 50), "")

    def test_wrong(self):
        for thing in no_rows():
            with self.assertRaises(NoRow):
                net(thing)


class UndoneTest(unittest.TestCase):
    def test_plain(self):
        self.assertEqual([undone(row) for row in ("", "a", "A", "ab", "aB", "abB", "aA")],
                         ["", "A", "a", "BA", "bA", "A", ""])

    def test_by_chance(self):
        for row in chance_rows(4, 200, "abc", 20) + chance_rows(5, 10, ALL, 200):
            self.assertEqual(undone(row), slow_net(flipped(row)))
            self.assertEqual(net(row + undone(row)), "")

    def test_wrong(self):
        for thing in no_rows():
            with self.assertRaises(NoRow):
                undone(thing)


class JoinedTest(unittest.TestCase):
    def test_plain(self):
        for rows, told in [([], ""), ((), ""), (["a"], "a"), (("aA", ""), ""), (["ab", "Bc"], "ac"),
                           (("ab", "", "BA", "z"), "z"), (["a", "a", "a"], "aaa")]:
            self.assertEqual(joined(rows), told)
            self.assertEqual(joined(tuple(rows)), told)
            self.assertEqual(joined(list(rows)), told)

    def test_by_chance(self):
        for seed in range(30):
            rows = chance_rows(seed, 5, "ab", 10)
            self.assertEqual(joined(rows), slow_net("".join(rows)))

    def test_keeps_its_argument(self):
        rows = ["ab", "B"]
        joined(rows)
        self.assertEqual(rows, ["ab", "B"])

    def test_wrong(self):
        for thing in odd_things() + odd_integers() + odd_strings() + ["", "a", "ab"]:
            if not isinstance(thing, (list, tuple)) or not all([isinstance(item, str) for item in thing]):
                with self.assertRaises(NoRow):
                    joined(thing)
        for thing in no_rows():
            for rows in ([thing], (thing,), ["a", thing], ("a", thing, "b")):
                with self.assertRaises(NoRow):
                    joined(rows)


class PowerTest(unittest.TestCase):
    def test_plain(self):
        for row, times, told in [("a", 3, "aaa"), ("a", 0, ""), ("a", -2, "AA"), ("", 7, ""), ("aA", -7, ""),
                                 ("abA", 2, "abbA"), ("abA", -2, "aBBA"), ("ab", -1, "BA"), ("aab", 1, "aab")]:
            self.assertEqual(power(row, times), told)

    def test_by_chance(self):
        for row in chance_rows(6, 100, "ab", 9):
            for times in range(-4, 5):
                told = row * times if times >= 0 else flipped(row) * -times
                self.assertEqual(power(row, times), slow_net(told))

    def test_bounds(self):
        self.assertEqual(power("a", 1000), "a" * 1000)
        self.assertEqual(power("a", -1000), "A" * 1000)
        self.assertEqual(power("baB", 1000), "b" + "a" * 1000 + "B")
        self.assertEqual(power("ab" * 100, 1000), "ab" * 100000)
        for times in (1001, -1001, 10 ** 59, -(10 ** 59)):
            with self.assertRaises(NoNumber):
                power("a", times)
            with self.assertRaises(NoNumber):
                power("", times)

    def test_wrong(self):
        for thing in odd_things() + ["", "a", "1"]:
            with self.assertRaises(NoNumber):
                power("a", thing)
            with self.assertRaises(NoRow):
                power(5, thing)
        for thing in no_rows():
            with self.assertRaises(NoRow):
                power(thing, 2)


class TurnedTest(unittest.TestCase):
    def test_plain(self):
        for row, by, told in [("a", "b", "baB"), ("", "ab", ""), ("a", "", "a"), ("a", "a", "a"), ("Bab", "b", "a"),
                              ("aA", "b", ""), ("ab", "aA", "ab")]:
            self.assertEqual(turned(row, by), told)

    def test_by_chance(self):
        rows = chance_rows(7, 100, "ab", 9)
        for row, by in zip(rows, reversed(rows)):
            self.assertEqual(turned(row, by), slow_net(by + row + flipped(by)))

    def test_wrong(self):
        for thing in no_rows():
            with self.assertRaises(NoRow):
                turned(thing, "a")
            with self.assertRaises(NoRow):
                turned("a", thing)


class EarlierTest(unittest.TestCase):
    def test_order_of_letters(self):
        for at, one in enumerate(LETTERS):
            for second_at, second in enumerate(LETTERS):
                self.assertIs(earlier(one, second), at < second_at)

    def test_order_of_rows(self):
        rows = nets_up_to("ab", 3)
        for at, one in enumerate(rows):
            for second_at, second in enumerate(rows):
                self.assertIs(earlier(one, second), at < second_at)

    def test_rows_as_they_stand(self):
        self.assertIs(earlier("b", "aA"), True)
        self.assertIs(earlier("aA", ""), False)
        self.assertIs(earlier("zz", "aaa"), True)
        self.assertIs(earlier("aA", "ab"), True)

    def test_wrong(self):
        for thing in no_rows():
            with self.assertRaises(NoRow):
                earlier(thing, "a")
            with self.assertRaises(NoRow):
                earlier("a", thing)


class RootTest(unittest.TestCase):
    def test_plain(self):
        for row, told in [("a", ("a", 1)), ("aaa", ("a", 3)), ("A", ("A", 1)), ("AA", ("A", 2)), ("abab", ("ab", 2)),
                          ("abA", ("abA", 1)), ("abbA", ("abA", 2)), ("aabb", ("aabb", 1)), ("abaab", ("abaab", 1)),
                          ("abcabcabA" + "a", ("abcabcab", 1)), ("baaB", ("baB", 2)), ("aAbb", ("b", 2))]:
            self.assertEqual(root(row), told)

    def test_by_chance(self):
        for one in nets_up_to("ab", 5)[1:]:
            for times in (1, 2, 3):
                row = slow_net(one * times)
                found, many = root(row)
                self.assertEqual(slow_net(found * many), row)
                self.assertEqual(slow_net(found), found)
                self.assertEqual(many % times, 0)
                self.assertEqual(root(found), (found, 1))

    def test_greatest_by_trying_all(self):
        nets = nets_up_to("ab", 4)[1:]
        best = {}
        for one in nets:
            for times in range(1, 5):
                row = slow_net(one * times)
                if times > best.get(row, (None, 0))[1]:
                    best[row] = (one, times)
        for row in nets:
            self.assertEqual(root(row), best[row])

    def test_long(self):
        self.assertEqual(root("ab" * 100), ("ab", 100))
        self.assertEqual(root("a" * 199), ("a", 199))
        self.assertEqual(root("a" * 99 + "bb" + "A" * 99), ("a" * 99 + "b" + "A" * 99, 2))
        self.assertEqual(root("a" * 199 + "b"), ("a" * 199 + "b", 1))

    def test_no_root(self):
        for row in ("", "aA", "abBA"):
            with self.assertRaises(NoRoot):
                root(row)

    def test_wrong(self):
        for thing in no_rows():
            with self.assertRaises(NoRow):
                root(thing)
