"""Points 16.1 and 16.2: reports on an unknown world."""

import random
import unittest

from runsback.errors import Clash, NoDeeds, NoFlag, NoRow, NothingDone, RunsError, TooMany
from runsback.homes import is_home
from runsback.keepers import Keeper
from runsback.rows import net
from runsback.tables import is_product
from runsback.webs import keeps, web_of
from runsback.worlds import World
from tests.samples import (chance_product, chance_row, nets_up_to, odd_integers, odd_strings, odd_things, slow_keeps, slow_led, slow_net,
                           slow_web)

WRONG_ROWS = odd_things() + odd_integers() + odd_strings() + ["c", "C", "abc", "a" * 13, "abAB" * 4, "aA" * 7]


def keeper_of(*reports, deeds="ab"):
    keeper = Keeper(deeds)
    for row, home in reports:
        keeper.tell(row, home)
    return keeper


def slow_answer(deeds, reports, row):
    """The answer, by rounds that are folded pair by pair."""
    homes = [net(one) for one, home in reports if home]
    if slow_keeps(slow_web(deeds, homes), slow_net(row)):
        return "home"
    ways = slow_web(deeds, homes + [net(row)])
    return "away" if any([slow_keeps(ways, slow_net(one)) for one, home in reports if not home]) else "open"


class KeeperTest(unittest.TestCase):
    def test_example(self):
        k = Keeper("ab")
        self.assertIsNone(k.tell("aa", True))
        self.assertIsNone(k.tell("a", False))
        self.assertEqual(k.answer("aaa"), "away")

    def test_answers(self):
        k = keeper_of(("aa", True), ("a", False), ("abAB", False))
        for row in ["", "aA", "aa", "AA", "aaaa", "bBaa"]:
            self.assertEqual(k.answer(row), "home")
        for row in ["a", "A", "aaa", "abAB", "baBA", "Aaa"]:
            self.assertEqual(k.answer(row), "away")
        # If b led the start to itself, ab and AB would lead a and back.
        for row in ["b", "B", "bb", "ab", "bab", "baB", "abA"]:
            self.assertEqual(k.answer(row), slow_answer("ab", k.reports(), row))
        self.assertEqual(k.answer("bb"), "open")
        self.assertEqual(k.answer("ab"), "open")

    def test_nothing_told(self):
        k = Keeper("a")
        self.assertEqual((k.answer(""), k.answer("a"), k.reports()), ("home", "open", []))
        with self.assertRaises(Clash):
            k.tell("", False)
        with self.assertRaises(Clash):
            k.tell("aA", False)
        k.tell("", True)
        k.tell("aA", True)
        self.assertEqual(k.reports(), [("", True), ("aA", True)])

    def test_one_flag_alone(self):
        k = keeper_of(("ab", True), ("bb", True))
        self.assertEqual([k.answer(row) for row in ("aB", "abAB", "a", "aa")], [slow_answer("ab", k.reports(), row) for row in ("aB", "abAB", "a", "aa")])
        self.assertEqual(k.answer("aB"), "home")
        self.assertEqual(k.answer("a"), "open")
        k = keeper_of(("ab", False), ("bb", False))
        self.assertEqual((k.answer("ab"), k.answer("b"), k.answer("aB"), k.answer("")), ("away", "away", "open", "home"))

    def test_deeds(self):
        for deeds in ["", "ba", "aa", "abcde", "A", "aB"] + odd_strings() + odd_things() + odd_integers():
            with self.assertRaises(NoDeeds):
                Keeper(deeds)
        for deeds in ["a", "z", "acxz"]:
            k = Keeper(deeds)
            k.tell(deeds * 3, True)
            self.assertEqual(k.reports(), [(deeds * 3, True)])

    def test_rows(self):
        k = keeper_of(("ab", True), ("b", False))
        for row in WRONG_ROWS:
            for call in (k.answer, k.paper, lambda thing: k.tell(thing, True), lambda thing: k.tell(thing, None)):
                with self.assertRaises(NoRow):
                    call(row)
        self.assertEqual(k.reports(), [("ab", True), ("b", False)])
        self.assertEqual(k.answer("ab" * 6), "home")
        self.assertEqual(k.answer("aA" * 6), "home")
        k.tell("ab" * 6, True)

    def test_flags(self):
        k = Keeper("ab")
        for thing in odd_things() + odd_integers() + odd_strings() + ["True", "", 1, 0]:
            if thing is not True and thing is not False:
                with self.assertRaises(NoFlag):
                    k.tell("a", thing)
        self.assertEqual(k.reports(), [])

    def test_five_of_each(self):
        homes = ["a", "bb", "a", "bab", "BB"]
        k = keeper_of(*[(row, True) for row in homes])
        for row in ["a", "b", "", "bAAb"]:
            with self.assertRaises(TooMany) as caught:
                k.tell(row, True)
            self.assertEqual(caught.exception.most, 5)
        for row in ["b", "ba", "ab", "aba", "b"]:
            k.tell(row, False)
        for row in ["b", "a", "bbb"]:
            with self.assertRaises(TooMany):
                k.tell(row, False)
            with self.assertRaises(TooMany):
                k.tell(row, True)
        self.assertEqual(len(k.reports()), 10)
        for row in nets_up_to("ab", 3):
            self.assertEqual(k.answer(row), slow_answer("ab", k.reports(), row))
            k.paper(row)
        k.back()
        k.tell("B", False)
        self.assertEqual(k.reports()[-1], ("B", False))

    def test_order_of_errors(self):
        k = keeper_of(*[("aa", True)] * 5, *[("a", False)] * 5)
        for row in ["c", None, "a" * 13]:
            with self.assertRaises(NoRow):
                k.tell(row, None)
        for flag in (1, None, "True"):
            with self.assertRaises(NoFlag):
                k.tell("a", flag)
        for row, flag in [("a", True), ("aa", False), ("b", True), ("b", False)]:
            with self.assertRaises(TooMany):
                k.tell(row, flag)
        k.back()
        with self.assertRaises(Clash):
            k.tell("aa", False)
        with self.assertRaises(TooMany):
            k.tell("a", True)

    def test_clashes(self):
        k = keeper_of(("aa", True), ("ab", False))
        for row, home in [("ab", True), ("BA", True), ("aaab", True), ("Ab", True), ("aa", False), ("AAAA", False), ("", False), ("bB", False)]:
            with self.assertRaises(Clash):
                k.tell(row, home)
            self.assertEqual(k.reports(), [("aa", True), ("ab", False)])
        k.tell("ab", False)
        k.tell("AA", True)
        k.tell("aba", True)
        self.assertEqual(len(k.reports()), 5)

    def test_clashes_by_what_follows(self):
        k = keeper_of(("aaa", True), ("bb", True), ("a", False))
        self.assertEqual(k.answer("aa"), "away")
        self.assertEqual(k.answer("ba"), "open")
        k.tell("bab", True)
        self.assertEqual(k.answer("baab"), "home")
        # Were b to lead the start to itself, bab would make a do so.
        self.assertEqual(k.answer("b"), "away")
        with self.assertRaises(Clash):
            k.tell("b", True)
        with self.assertRaises(Clash):
            k.tell("baab", False)

    def test_back(self):
        k = Keeper("ab")
        with self.assertRaises(NothingDone):
            k.back()
        k.tell("aa", True)
        k.tell("a", False)
        with self.assertRaises(Clash):
            k.tell("a", True)
        self.assertIsNone(k.back())
        self.assertEqual(k.reports(), [("aa", True)])
        k.tell("a", True)
        self.assertEqual(k.answer("aaa"), "home")
        k.back()
        k.back()
        self.assertEqual((k.reports(), k.answer("aa")), ([], "open"))
        for _ in range(2):
            with self.assertRaises(NothingDone):
                k.back()
        k.tell("aa", False)
        self.assertEqual((k.reports(), k.answer("aa")), ([("aa", False)], "away"))

    def test_reports(self):
        k = keeper_of(("aAb", True), ("bB" * 6, True), ("aAb", True), ("a", False))
        found = k.reports()
        self.assertEqual(found, [("aAb", True), ("bB" * 6, True), ("aAb", True), ("a", False)])
        self.assertEqual((type(found), type(found[0])), (list, tuple))
        found.clear()
        self.assertEqual(len(k.reports()), 4)
        self.assertEqual(len(Keeper("ab").reports()), 0)

    def test_what_raised_has_changed_nothing(self):
        k = keeper_of(("ab", True), ("b", False))
        for row, home in [("c", True), ("a", 1), ("ab", False), ("b", True), (None, None)]:
            with self.assertRaises(RunsError):
                k.tell(row, home)
            self.assertEqual(k.reports(), [("ab", True), ("b", False)])
        k.back()
        self.assertEqual(k.reports(), [("ab", True)])


class PaperTest(unittest.TestCase):
    def check(self, k, deeds, row):
        """Check the paper for a row, and tell what the answer is."""
        reports = k.reports()
        told = slow_answer(deeds, reports, row)
        homes, aways = [one for one, home in reports if home], [one for one, home in reports if not home]
        self.assertEqual(k.answer(row), told)
        paper = k.paper(row)
        self.assertIs(type(paper), tuple)
        self.assertEqual(paper[0], told)
        if told == "home":
            self.assertEqual(len(paper), 2)
            self.assertIs(is_product(deeds, homes, row, paper[1]), True)
        elif told == "away":
            self.assertEqual(len(paper), 3)
            self.assertIs(type(paper[1]), int)
            self.assertEqual(reports[paper[1]][1], False)
            self.assertIs(is_product(deeds, homes + [row], reports[paper[1]][0], paper[2]), True)
        else:
            self.assertEqual(len(paper), 3)
            for world, leads in [(paper[1], True), (paper[2], False)]:
                self.assertIs(type(world), World)
                self.assertEqual(world.deeds, deeds)
                self.assertEqual([slow_led(world, 0, one) for one in homes], [0] * len(homes))
                self.assertFalse(0 in [slow_led(world, 0, one) for one in aways])
                self.assertIs(slow_led(world, 0, row) == 0, leads)
            self.assertIs(is_home(deeds, homes + [row], aways, paper[1]), True)
            self.assertIs(is_home(deeds, homes, aways + [row], paper[2]), True)
        self.assertEqual(k.reports(), reports)
        return told

    def test_plain(self):
        k = keeper_of(("aa", True), ("a", False), ("bb", True), ("ab", False))
        self.assertEqual({self.check(k, "ab", row) for row in nets_up_to("ab", 3)}, {"home", "away", "open"})
        self.assertEqual(k.paper("aaa")[:2], ("away", 1))
        self.assertEqual(k.paper("ab")[:2], ("away", 3))

    def test_the_number_counts_all_reports(self):
        k = keeper_of(("b", False), ("aa", True), ("aba", False))
        self.assertEqual(k.paper("abA")[:2], ("away", 2))
        self.assertEqual(k.paper("b")[:2], ("away", 0))
        k.back()
        self.assertEqual(k.paper("abA")[0], "open")

    def test_at_the_bounds(self):
        homes = ["ab" * 6, "aabb" * 3, "b" * 12, "abAB" * 3, "bbaabbaabbaa"]
        k = keeper_of(*[(row, True) for row in homes], *[(row, False) for row in ["a", "b", "aB", "ba" * 5, "aab"]])
        for row in nets_up_to("ab", 2) + ["ab" * 6, "BA" * 6, "a" * 12, "aAbB" * 3]:
            self.check(k, "ab", row)

    def test_by_chance(self):
        chance = random.Random(201)
        found = {"home": 0, "away": 0, "open": 0}
        for _ in range(120):
            deeds = chance.choice(["a", "ab", "ab", "abc"])
            k = Keeper(deeds)
            for _ in range(chance.randint(0, 8)):
                homes = [row for row, home in k.reports() if home]
                row = chance.choice([chance_row(chance, deeds, 6), net(chance_product(chance, homes, 3))[:12]])
                home = chance.random() < 0.5
                told = k.answer(row)
                try:
                    k.tell(row, home)
                    self.assertNotEqual(told, "away" if home else "home")
                except (Clash, TooMany) as error:
                    if isinstance(error, Clash):
                        self.assertEqual(told, "away" if home else "home")
            homes = [row for row, home in k.reports() if home]
            for row in nets_up_to(deeds, 1) + [chance_row(chance, deeds, 12), net(chance_product(chance, homes, 4))[:12]]:
                found[self.check(k, deeds, row)] += 1
            # What is told home is never made to be away, and the other way round.
            web = web_of(deeds, homes)
            self.assertFalse(any([keeps(web, row) for row, home in k.reports() if not home]))
        self.assertTrue(min(found.values()) > 50)
