"""The examples of the document, e01 to e15."""

import unittest

from runsback.comparing import beyond, within
from runsback.covers import reached
from runsback.effects import at, count, effects, has
from runsback.flows import detours, flow
from runsback.games import wins
from runsback.keepers import Keeper
from runsback.prices import cheapest
from runsback.programs import Program
from runsback.rings import sure
from runsback.rows import net
from runsback.sums import sum_paper
from runsback.webs import index, web_of
from runsback.worlds import World


class ExamplesTest(unittest.TestCase):
    def setUp(self):
        self.p = Program("ab", {}, (("loop", (("do", "ab"),)), ("do", "B")))
        self.q = Program("ab", {}, (("either", ((("do", "a"),), (("do", "B"),))),))

    def test_rows_and_flows(self):
        self.assertEqual(net("abBAb"), "b")
        self.assertEqual(flow(self.p), (5, [(0, "", 3), (3, "a", 4), (4, "b", 3), (3, "", 2), (2, "B", 1)]))
        self.assertEqual(detours(self.p), [(0, 0), (0, 2), (0, 3), (1, 1), (2, 2), (3, 2), (3, 3), (4, 1), (4, 4)])

    def test_effects(self):
        lot = effects(self.p)
        self.assertEqual((at(lot, 0), at(lot, 1), at(lot, 2)), ("a", "B", "aba"))
        self.assertEqual(count(lot, 1), 2)

    def test_comparing_and_prices(self):
        self.assertIs(within(self.q, self.p), True)
        self.assertEqual(beyond(self.p, self.q), "aba")
        self.assertEqual(cheapest(self.p, {"a": 1, "A": 1, "b": 2, "B": 5}, "a")[0], 8)

    def test_worlds(self):
        self.assertEqual(reached(World("ab", {"a": (1, 2, 0), "b": (0, 1, 2)}), self.p, 0), [0, 1, 2])

    def test_webs_and_rings(self):
        self.assertEqual(web_of("ab", ["ab"]).ways, ((0, "a", 1), (1, "b", 0)))
        self.assertEqual((index(web_of("a", [])), index(web_of("a", ["a"])), index(web_of("a", ["aa"]))), (None, 1, 2))
        self.assertIs(has(effects(self.p), "BAB"), False)
        self.assertIs(sure(self.p, "BAB"), True)
        self.assertIs(sure(self.p, "A"), False)

    def test_sums_games_and_keepers(self):
        self.assertEqual(sum_paper(self.p, "BAB"), (0, (-1,)))
        program = Program("a", {}, (("other", ((("do", "a"),), ())), ("either", ((("do", "a"),), ()))))
        self.assertIs(wins(World("a", {"a": (1, 0)}), program, 0, (0,)), True)
        k = Keeper("ab")
        k.tell("aa", True)
        k.tell("a", False)
        self.assertEqual(k.answer("aaa"), "away")
