"""Points 10.1 and 10.2: webs."""

import random
import unittest

from runsback.errors import NoDeeds, NoRow, NoRows, OtherDeeds
from runsback.rows import earlier, joined, net, power, undone
from runsback.tables import product
from runsback.webs import Web, as_world, basis, common, index, inside, joint, keeps, least_power, web_of
from runsback.worlds import World, led, move_of
from tests.samples import (LETTERS, chance_product, chance_row, chance_rows, nets_up_to, odd_integers, odd_strings, odd_things,
                           slow_keeps, slow_net, slow_web)

NOTHING = web_of("ab", [])
WHOLE = web_of("ab", ["a", "b"])
EVEN = web_of("ab", ["aa", "b", "abA"])
CHAIN = web_of("ab", ["aabb"])
WEBS = [NOTHING, WHOLE, EVEN, CHAIN, web_of("ab", ["abAB"]), web_of("ab", ["aab", "bb", "BaB"]), web_of("ab", ["a", "bbb"]),
        web_of("ab", ["aa", "bb", "abab", "ab"]), web_of("ab", ["aaa", "bb", "abAB"])]
WRONG_ROWS = odd_things() + odd_integers() + odd_strings() + ["c", "C", "abc"]


def chance_webs(seed, many):
    chance = random.Random(seed)
    found = []
    for _ in range(many):
        deeds = chance.choice(["ab", "ab", "abc"])
        found.append((deeds, chance_rows(chance, deeds, chance.randint(0, 4), chance.choice([2, 3, 6, 12]))))
    return found


def lead(web, row):
    """The place to which a row leads 0, or None."""
    place = 0
    for letter in row:
        goals = [q for p, d, q in web.ways if d == letter and p == place]
        goals += [p for p, d, q in web.ways if d.upper() == letter and q == place]
        if not goals:
            return None
        place = goals[0]
    return place


class WebOfTest(unittest.TestCase):
    def assertWeb(self, web):
        """All that point 10.1 says of a web but which rows it keeps."""
        self.assertIs(type(web), Web)
        self.assertIs(type(web.ways), tuple)
        self.assertEqual(list(web.ways), sorted(set(web.ways)))
        for start, deed, goal in web.ways:
            self.assertTrue(0 <= start < web.size and 0 <= goal < web.size and deed in web.deeds)
        self.assertEqual(len({(p, d) for p, d, q in web.ways}), len(web.ways))
        self.assertEqual(len({(d, q) for p, d, q in web.ways}), len(web.ways))
        for place in range(1, web.size):
            self.assertTrue(len([1 for p, d, q in web.ways for end in (p, q) if end == place]) >= 2)
        rows = self.earliest_rows(web)
        self.assertEqual(sorted(rows), list(range(web.size)))
        for place in range(web.size - 1):
            self.assertTrue(earlier(rows[place], rows[place + 1]))

    def earliest_rows(self, web):
        rows = {0: ""}
        order = [0]
        for place in order:
            steps = [(d, q) for p, d, q in web.ways if p == place] + [(d.upper(), p) for p, d, q in web.ways if q == place]
            for letter, goal in sorted(steps, key=lambda step: LETTERS.index(step[0])):
                if goal not in rows:
                    rows[goal] = rows[place] + letter
                    order.append(goal)
        return rows

    def test_examples(self):
        self.assertEqual(web_of("ab", ["ab"]).ways, ((0, "a", 1), (1, "b", 0)))
        self.assertEqual((index(web_of("a", [])), index(web_of("a", ["a"])), index(web_of("a", ["aa"]))), (None, 1, 2))

    def test_plain(self):
        self.assertEqual((NOTHING.deeds, NOTHING.size, NOTHING.ways), ("ab", 1, ()))
        self.assertEqual((WHOLE.size, WHOLE.ways), (1, ((0, "a", 0), (0, "b", 0))))
        self.assertEqual((EVEN.size, EVEN.ways), (2, ((0, "a", 1), (0, "b", 0), (1, "a", 0), (1, "b", 1))))
        self.assertEqual((CHAIN.size, CHAIN.ways), (4, ((0, "a", 1), (1, "a", 3), (2, "b", 0), (3, "b", 2))))
        self.assertEqual(web_of("ab", ["baB"]).ways, ((0, "b", 1), (1, "a", 1)))
        self.assertEqual(web_of("ab", ["Bab"]).ways, ((1, "a", 1), (1, "b", 0)))
        self.assertEqual(web_of("ab", ("aa", "aaa")).ways, ((0, "a", 0),))
        self.assertEqual(web_of("ab", ["a" * 12, "a" * 9]), web_of("ab", ["aaa"]))
        self.assertEqual(web_of("ab", ["aaaa"]).ways, ((0, "a", 1), (1, "a", 3), (2, "a", 0), (3, "a", 2)))

    def test_empty_nets(self):
        for rows in ([], (), [""], ["", ""], ["aA"], ["abBA", ""], ["BbaA"] * 6):
            self.assertEqual(web_of("ab", rows), NOTHING)
        self.assertEqual(web_of("ab", ["", "aabb", "bB"]), CHAIN)
        self.assertEqual(web_of("ab", ["aabBabb"]), web_of("ab", ["aaabb"]))

    def test_the_same_rows_made(self):
        for rows in [["a", "b", "ab"], ["ab", "b"], ["A", "aB"], ["b", "a"], ["aab", "ab"], ["a", "b", "a", "b", "a", "b"]]:
            self.assertEqual(web_of("ab", rows), WHOLE)
        self.assertEqual(web_of("ab", ["BBAA"]), CHAIN)
        self.assertNotEqual(web_of("ab", ["aabb", "ab"]), web_of("ab", ["aabbaabb"]))
        self.assertEqual(web_of("ab", ["aabb", "aabbaabb"]), CHAIN)

    def test_by_chance(self):
        chance = random.Random(111)
        for deeds, rows in chance_webs(112, 120):
            web = web_of(deeds, rows)
            self.assertWeb(web)
            self.assertEqual(web.deeds, deeds)
            ways = slow_web(deeds, [slow_net(row) for row in rows])
            for one in nets_up_to(deeds, 3) + [slow_net(chance_product(chance, rows, 4)) for _ in range(10)]:
                self.assertIs(keeps(web, one), slow_keeps(ways, one))
            self.assertEqual(len(web.ways), len(ways))
            mixed = list(rows)
            for at in range(len(mixed)):
                other = chance.randrange(len(mixed))
                if other != at and len(mixed[at] + mixed[other]) <= 12:
                    mixed[at] = mixed[at] + mixed[other]
            chance.shuffle(mixed)
            mixed = [chance.choice([row, undone(row)]) for row in mixed]
            self.assertEqual(web_of(deeds, mixed), web)
            self.assertEqual(web_of(deeds, tuple(mixed)), web)

    def test_greatest(self):
        chance = random.Random(113)
        for _ in range(20):
            rows = ["".join([chance.choice("aAbB") for _ in range(12)]) for _ in range(6)]
            web = web_of("ab", rows)
            self.assertWeb(web)
            for row in rows:
                self.assertIs(keeps(web, row), True)

    def test_errors(self):
        for thing in odd_things() + odd_integers() + odd_strings() + ["", "ba", "aa", "abcde", "A"]:
            with self.assertRaises(NoDeeds):
                web_of(thing, [])
            with self.assertRaises(NoDeeds):
                web_of(thing, None)
        for thing in odd_things() + odd_integers() + odd_strings() + ["", "a", {"a": "a"}]:
            if thing not in ([], ()):
                with self.assertRaises(NoRows):
                    web_of("ab", thing)
        for thing in WRONG_ROWS + ["a" * 13]:
            for rows in ([thing], ("a", thing), ["a"] * 5 + [thing]):
                with self.assertRaises(NoRows):
                    web_of("ab", rows)
        for rows in (["a"] * 7, [""] * 7, ("a", "b") * 4):
            with self.assertRaises(NoRows):
                web_of("ab", rows)
        self.assertEqual(web_of("ab", ["a" * 12] * 6).size, 12)

    def test_equality(self):
        self.assertTrue(web_of("ab", ["aabb"]) == CHAIN)
        self.assertFalse(web_of("ab", ["aabb"]) != CHAIN)
        for other in [NOTHING, EVEN, web_of("abc", ["aabb"]), web_of("ac", ["aacc"]), ("ab", 4, CHAIN.ways), None, "ab", 4,
                      CHAIN.ways] + odd_things():
            self.assertFalse(CHAIN == other)
            self.assertTrue(CHAIN != other)
        self.assertFalse(web_of("a", []) == web_of("b", []))


class KeepsTest(unittest.TestCase):
    def test_plain(self):
        for web, kept, others in [(NOTHING, ["", "aA", "abBA"], ["a", "B", "abAB"]), (WHOLE, ["", "a", "Bab"], []),
                                  (EVEN, ["aa", "b", "abA", "Aba", "aBBA", "aabaaB"], ["a", "ab", "aba" + "a"]),
                                  (CHAIN, ["aabb", "BBAA", "aabbaabb", "aaBbbb"], ["a", "bb", "bbaa", "aabbA", "BBAAbb"])]:
            for row in kept:
                self.assertIs(keeps(web, row), True)
            for row in others:
                self.assertIs(keeps(web, row), False)

    def test_long_rows(self):
        self.assertIs(keeps(CHAIN, "aabb" * 50), True)
        self.assertIs(keeps(CHAIN, "aabb" * 49 + "aaab"), False)

    def test_no_row(self):
        for thing in WRONG_ROWS:
            with self.assertRaises(NoRow):
                keeps(CHAIN, thing)
            with self.assertRaises(NoRow):
                least_power(CHAIN, thing)


class BasisTest(unittest.TestCase):
    def test_plain(self):
        self.assertEqual(basis(NOTHING), [])
        self.assertEqual(basis(WHOLE), ["a", "b"])
        self.assertEqual(basis(EVEN), ["b", "aa", "abA"])
        self.assertEqual(basis(CHAIN), ["aabb"])
        self.assertEqual(basis(web_of("ab", ["BBAA"])), ["aabb"])
        self.assertEqual(basis(web_of("ab", ["Aba"])), ["Aba"])
        self.assertEqual(basis(web_of("ab", ["aab", "bb", "abAB"])), ["aaB", "baBA", "bb"])

    def test_by_chance(self):
        for deeds, rows in chance_webs(114, 120):
            web = web_of(deeds, rows)
            nets = basis(web)
            self.assertIs(type(nets), list)
            self.assertEqual(nets, self.slow_basis(web))
            self.assertEqual(len(nets), len(web.ways) - web.size + 1)
            for one in nets:
                self.assertEqual(one, slow_net(one))
                self.assertIs(keeps(web, one), True)
                self.assertIsNotNone(product(deeds, rows, one))
            if len(nets) <= 6 and max([len(one) for one in nets] + [0]) <= 12:
                self.assertEqual(web_of(deeds, nets), web)

    def slow_basis(self, web):
        rows = WebOfTest().earliest_rows(web)
        found = []
        for p, d, q in web.ways:
            if rows[q] != slow_net(rows[p] + d) or rows[q] != rows[p] + d:
                if rows[p] != rows[q] + d.upper():
                    found.append(net(rows[p] + d + undone(rows[q])))
        return found

    def test_new_each_time(self):
        basis(CHAIN).clear()
        self.assertEqual(basis(CHAIN), ["aabb"])


class IndexTest(unittest.TestCase):
    def test_plain(self):
        self.assertEqual([index(web) for web in WEBS], [None, 1, 2, None, None, 1, None, 2, None])
        self.assertEqual(index(web_of("a", ["a" * 12])), 12)
        self.assertIsNone(index(web_of("abc", ["aa", "b", "abA"])))

    def test_by_chance(self):
        found = 0
        for deeds, rows in chance_webs(115, 200):
            web = web_of(deeds, rows)
            letters = [letter for letter in LETTERS if letter.lower() in deeds]
            whole = all([lead(web, row + letter) is not None for row in WebOfTest().earliest_rows(web).values()
                         for letter in letters])
            self.assertEqual(index(web), web.size if whole else None)
            found += whole
        self.assertTrue(found > 5)


class InsideTest(unittest.TestCase):
    def test_plain(self):
        for web in WEBS:
            self.assertIs(inside(web, web), True)
            self.assertIs(inside(NOTHING, web), True)
            self.assertIs(inside(web, WHOLE), True)
            self.assertIs(inside(web, NOTHING), web == NOTHING)
            self.assertIs(inside(WHOLE, web), web == WHOLE)
        self.assertIs(inside(CHAIN, EVEN), True)
        self.assertIs(inside(EVEN, CHAIN), False)
        self.assertIs(inside(web_of("ab", ["ab", "bb"]), EVEN), False)
        self.assertIs(inside(web_of("ab", ["aabbaabb"]), CHAIN), True)
        self.assertIs(inside(CHAIN, web_of("ab", ["aabbaabb"])), False)

    def test_by_chance(self):
        chance = random.Random(116)
        answers = []
        for _ in range(200):
            rows = chance_rows(chance, "ab", chance.randint(1, 3), 4)
            made = [row for row in [chance_product(chance, rows, 3) for _ in range(3)] if len(row) <= 12]
            made += chance_rows(chance, "ab", chance.choice([0, 0, 1]), 4)
            one, other = web_of("ab", made), web_of("ab", rows)
            answers.append(all([keeps(other, row) for row in basis(one)]))
            self.assertIs(inside(one, other), answers[-1])
        self.assertTrue(answers.count(True) > 20 and answers.count(False) > 20)


class CommonAndJointTest(unittest.TestCase):
    def assertWeb(self, web):
        WebOfTest().assertWeb(web)

    def test_plain(self):
        for web in WEBS:
            for function in (common, joint):
                self.assertEqual(function(web, web), web)
            self.assertEqual((common(web, NOTHING), common(NOTHING, web)), (NOTHING, NOTHING))
            self.assertEqual((joint(web, NOTHING), joint(NOTHING, web)), (web, web))
            self.assertEqual((common(web, WHOLE), common(WHOLE, web)), (web, web))
            self.assertEqual((joint(web, WHOLE), joint(WHOLE, web)), (WHOLE, WHOLE))
        self.assertEqual(common(web_of("ab", ["aa"]), web_of("ab", ["aaa"])), web_of("ab", ["a" * 6]))
        self.assertEqual(joint(web_of("ab", ["aa"]), web_of("ab", ["aaa"])), web_of("ab", ["a"]))
        self.assertEqual(common(web_of("ab", ["ab"]), web_of("ab", ["ba"])), NOTHING)
        self.assertEqual(common(web_of("ab", ["a", "bb"]), web_of("ab", ["aa", "b"])), web_of("ab", ["aa", "bb"]))

    def test_dead_ends(self):
        for first, second, kept in [(["aabb"], ["aaba"], []), (["aabb"], ["baab"], []), (["ab", "accA"], ["ab", "acbcA"], ["ab"]),
                                    (["ab", "acccA"], ["ab", "accbcA"], ["ab"]), (["baB", "aca"], ["baB", "aba"], ["baB"]),
                                    (["baB", "accca"], ["baB", "acbca"], ["baB"]), (["bacaBB", "acb"], ["bacaBB", "abb"], ["bacaBB"])]:
            one, other = web_of("abc", first), web_of("abc", second)
            self.assertEqual(common(one, other), web_of("abc", kept))
            self.assertEqual(common(other, one), web_of("abc", kept))

    def test_large(self):
        one, other = web_of("a", ["a" * 11]), web_of("a", ["a" * 12])
        both = common(one, other)
        self.assertEqual((both.size, index(both)), (132, 132))
        self.assertIs(keeps(both, power("a" * 12, 11)), True)
        self.assertWeb(both)
        three = common(both, web_of("a", ["a" * 7]))
        self.assertEqual(three.size, 924)
        self.assertEqual(joint(three, web_of("a", ["a" * 8])).size, 4)
        self.assertEqual(as_world(three).size, 924)
        self.assertEqual(least_power(three, "a" * 90), 154)
        self.assertIs(inside(three, both), True)
        self.assertIs(inside(both, three), False)
        self.assertEqual(basis(three), [power("a" * 12, 77)])

    def test_by_chance(self):
        chance = random.Random(117)
        some = 0
        for (deeds, rows), (_, others) in zip(chance_webs(118, 120), chance_webs(119, 120)):
            others = [row.replace("c", "b").replace("C", "B") for row in others]
            deeds = "abc"
            one, other = web_of(deeds, rows), web_of(deeds, others)
            both, joined_web = common(one, other), joint(one, other)
            self.assertEqual((common(other, one), joint(other, one)), (both, joined_web))
            self.assertWeb(both)
            self.assertWeb(joined_web)
            some += both.ways != ()
            if len(rows) + len(others) <= 6:
                self.assertEqual(joined_web, web_of(deeds, rows + others))
            self.assertTrue(inside(both, one) and inside(both, other) and inside(one, joined_web) and inside(other, joined_web))
            tries = nets_up_to(deeds, 2) + [chance_product(chance, rows, 3) for _ in range(10)] + basis(one) + basis(other)
            for row in tries:
                self.assertIs(keeps(both, row), keeps(one, row) and keeps(other, row))
            for row in basis(joined_web):
                self.assertIsNotNone(product(deeds, (rows + others)[:6], row) if len(rows + others) <= 6 else row)
        self.assertTrue(some > 10)

    def test_other_deeds(self):
        for function in (common, joint, inside):
            for one, other in [(WHOLE, web_of("a", ["a"])), (web_of("a", []), web_of("b", [])), (web_of("abc", []), NOTHING)]:
                with self.assertRaises(OtherDeeds):
                    function(one, other)


class LeastPowerTest(unittest.TestCase):
    def test_plain(self):
        for web, row, times in [(NOTHING, "", 1), (NOTHING, "aA", 1), (NOTHING, "a", None), (WHOLE, "abA", 1), (EVEN, "a", 2),
                                (EVEN, "ab", 2), (EVEN, "b", 1), (EVEN, "bab", 2), (EVEN, "aaa", 2), (CHAIN, "aabb", 1),
                                (CHAIN, "ab", None), (CHAIN, "aab", None), (CHAIN, "BBAA", 1), (CHAIN, "abba", None),
                                (web_of("ab", ["a" * 12]), "a", 12), (web_of("ab", ["a" * 12]), "A" * 8, 3),
                                (web_of("ab", ["b" + "a" * 10 + "B"]), "baB", 10), (web_of("ab", ["b" + "a" * 10 + "B"]), "a", None),
                                (web_of("ab", ["ba" * 3]), "ba", 3), (web_of("ab", ["ba" * 3]), "ab", None)]:
            self.assertEqual(least_power(web, row), times)

    def test_by_chance(self):
        chance = random.Random(120)
        found = set()
        for deeds, rows in chance_webs(121, 300):
            row = chance_row(chance, deeds, 4)
            web = web_of(deeds, rows + [row * chance.randint(2, 3)])
            row = chance.choice([row, row, chance_row(chance, deeds, 4)])
            times = least_power(web, row)
            found.add(times)
            kept = [k for k in range(1, 30) if keeps(web, power(row, k))]
            self.assertEqual(times, kept[0] if kept else None)
        self.assertTrue({None, 1, 2, 3} <= found)


class AsWorldTest(unittest.TestCase):
    def test_plain(self):
        for web in WEBS:
            world = as_world(web)
            self.assertEqual(world is None, index(web) is None)
            if world is not None:
                self.assertIs(type(world), World)
                self.assertEqual((world.deeds, world.size), (web.deeds, web.size))
                self.assertEqual({(p, d, q) for d in world.deeds for p, q in enumerate(world.moves[d])}, set(web.ways))
        self.assertEqual(as_world(EVEN), World("ab", {"a": (1, 0), "b": (0, 1)}))

    def test_kept_rows_lead_home(self):
        for deeds, rows in chance_webs(122, 200):
            web = web_of(deeds, rows)
            if index(web) is not None:
                for row in nets_up_to(deeds, 3):
                    self.assertIs(led(as_world(web), 0, row) == 0, keeps(web, row))

    def test_more_than_24(self):
        web = common(web_of("a", ["aaaaa"]), web_of("a", ["a" * 12]))
        self.assertEqual(as_world(web).size, 60)
        self.assertEqual(joined([power("a", 60), "A"]), "a" * 59)
        self.assertEqual(move_of(as_world(web), "a" * 60), tuple(range(60)))
