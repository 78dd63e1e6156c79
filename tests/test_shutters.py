"""Point 4.3: shutters."""

import copy
import unittest

from runsback.errors import NoRow
from runsback.flows import detours, flow
from runsback.programs import Program
from runsback.shutters import is_shutter, shutter
from tests.samples import (chance_programs, nets_up_to, odd_integers, odd_strings, odd_things, slow_detours, slow_has)

P = Program("ab", {}, (("loop", (("do", "ab"),)), ("do", "B")))


class ShutterTest(unittest.TestCase):
    def test_effects_have_none(self):
        for row in ("B", "a", "aba", "ababa", "aA" + "B", "abbBB"):
            self.assertIsNone(shutter(P, row))

    def test_others_have_one(self):
        for row in ("", "A", "b", "BAB", "abab", "aAb", "ab" * 100):
            thing = shutter(P, row)
            self.assertIs(is_shutter(P, row, thing), True)

    def test_kinds(self):
        pairs, lots = shutter(P, "Bb")
        self.assertIs(type(shutter(P, "Bb")), tuple)
        self.assertIs(type(pairs), list)
        self.assertEqual(sorted(pairs), detours(P))
        self.assertEqual([sorted(lot) for lot in lots], [[0, 2, 3]])

    def test_exactly_for_no_effects(self):
        for program in chance_programs(31, 60):
            many, arrows = flow(program)
            pairs = slow_detours(many, arrows)
            for one in nets_up_to("ab", 3):
                thing = shutter(program, one)
                self.assertEqual(thing is None, slow_has(many, arrows, pairs, one))
                if thing is not None:
                    self.assertIs(is_shutter(program, one, thing), True)

    def test_new_each_time(self):
        pairs, lots = shutter(P, "b")
        pairs.clear()
        lots[0].clear()
        self.assertIs(is_shutter(P, "b", shutter(P, "b")), True)

    def test_no_row(self):
        wrong = odd_things() + odd_integers() + odd_strings() + ["c", "C", "abc"]
        for thing in wrong:
            with self.assertRaises(NoRow):
                shutter(P, thing)
            with self.assertRaises(NoRow):
                is_shutter(P, thing, shutter(P, "b"))
            with self.assertRaises(NoRow):
                is_shutter(P, thing, None)


class IsShutterTest(unittest.TestCase):
    ROW = "bB" + "ba"

    def setUp(self):
        self.pairs, self.lots = shutter(P, self.ROW)

    def judged(self, pairs, lots):
        thing = (pairs, lots)
        before = copy.deepcopy(thing)
        answer = is_shutter(P, self.ROW, thing)
        self.assertEqual(thing, before)
        return answer

    def test_right(self):
        self.assertIs(self.judged(self.pairs, self.lots), True)

    def test_another_order(self):
        self.assertIs(self.judged(self.pairs[::-1], [lot[::-1] for lot in self.lots]), True)

    def test_greater(self):
        for place in range(5):
            for at in range(3):
                if place not in self.lots[at]:
                    lots = [list(lot) for lot in self.lots]
                    lots[at].append(place)
                    expected = self.is_right(self.pairs, lots)
                    self.assertIs(self.judged(self.pairs, lots), expected)
        everything = [(p, q) for p in range(5) for q in range(5)]
        self.assertIs(self.judged(everything, [[0, 1, 2, 3, 4]] * 3), False)
        without = [(p, q) for p in range(5) for q in range(5) if (p, q) != (0, 1)]
        self.assertIs(self.judged(without, self.lots), False)

    def is_right(self, pairs, lots):
        """Point 4.3 word by word, for lists of right places."""
        many, arrows = flow(P)
        told = set(pairs)
        one = "ba"
        closed = ({(p, p) for p in range(many)} <= told
                  and {(p, q) for p, x, q in arrows if x == ""} <= told
                  and {(p, r) for p, q in told for s, r in told if q == s} <= told
                  and {(p, q) for p, x, s in arrows if x for t, y, q in arrows
                       if y == x.swapcase() and (s, t) in told} <= told)
        if not closed or len(lots) != 3 or not {q for p, q in told if p == 0} <= set(lots[0]) or 1 in lots[-1]:
            return False
        for at in range(2):
            led = {q for p, x, r in arrows if p in lots[at] and x == one[at] for s, q in told if s == r}
            if not led <= set(lots[at + 1]):
                return False
        return True

    def test_more_pairs(self):
        answers = []
        for p in range(5):
            for q in range(5):
                if (p, q) not in self.pairs:
                    pairs = self.pairs + [(p, q)]
                    answers.append(self.is_right(pairs, self.lots))
                    self.assertIs(self.judged(pairs, self.lots), answers[-1])
        self.assertIn(True, answers)
        self.assertIn(False, answers)

    def test_greatest(self):
        one = "AA"
        program = Program("a", {}, (("do", "aa"),))
        pairs, lots = shutter(program, one)
        self.assertIs(is_shutter(program, one, (pairs, [[0], [], []])), True)
        self.assertIs(is_shutter(program, one, (pairs + [(0, 2), (0, 1), (2, 1)], [[0, 1, 2], [0, 2], [2]])), True)
        self.assertIs(is_shutter(program, one, (pairs, [[0, 1, 2], [0, 1, 2], [0, 2]])), True)
        self.assertIs(is_shutter(program, one, (pairs, [[0, 1, 2], [0, 1, 2], [0, 1]])), False)

    def test_a_pair_less(self):
        for pair in self.pairs:
            pairs = [other for other in self.pairs if other != pair]
            self.assertIs(self.judged(pairs, self.lots), False)

    def test_a_pair_twice(self):
        for pair in self.pairs:
            self.assertIs(self.judged(self.pairs + [pair], self.lots), False)

    def test_a_place_less_or_twice(self):
        for at, lot in enumerate(self.lots):
            for place in lot:
                spoiled = [list(other) for other in self.lots]
                spoiled[at].remove(place)
                self.assertIs(self.judged(self.pairs, spoiled), self.is_right(self.pairs, spoiled))
                spoiled[at] += [place, place]
                self.assertIs(self.judged(self.pairs, spoiled), False)
        self.assertIs(self.judged(self.pairs, [self.lots[0][1:]] + self.lots[1:]), False)

    def test_a_lot_less_or_more(self):
        self.assertIs(self.judged(self.pairs, self.lots[:-1]), False)
        self.assertIs(self.judged(self.pairs, self.lots + [[]]), False)
        self.assertIs(self.judged(self.pairs, []), False)

    def test_the_last_place_is_shut_out(self):
        self.assertIs(self.judged(self.pairs, self.lots[:-1] + [self.lots[-1] + [1]]), False)
        pairs = detours(P)
        self.assertIs(is_shutter(P, "B", (pairs, [[0, 2, 3], [1]])), False)
        self.assertIs(is_shutter(P, "B", (pairs, [[0, 2, 3], []])), False)

    def test_shut_for_another_row(self):
        self.assertIs(is_shutter(P, "B", (self.pairs, self.lots)), False)
        self.assertIs(is_shutter(P, "bb", (self.pairs, self.lots)), self.is_right(self.pairs, self.lots))

    def test_flags(self):
        pairs = [pair for pair in self.pairs if pair != (1, 1)]
        for pair in ((True, True), (True, 1), (1, True)):
            self.assertIs(self.judged(pairs + [pair], self.lots), False)
        pairs = [pair for pair in self.pairs if pair != (0, 0)]
        self.assertIs(self.judged(pairs + [(False, False)], self.lots), False)
        lots = [[False if place == 0 else place for place in lot] for lot in self.lots]
        self.assertIs(self.judged(self.pairs, lots), False)

    def test_lists_and_tuples(self):
        self.assertIs(is_shutter(P, self.ROW, [self.pairs, self.lots]), False)
        self.assertIs(self.judged(tuple(self.pairs), self.lots), False)
        self.assertIs(self.judged(self.pairs, tuple(self.lots)), False)
        self.assertIs(self.judged(self.pairs, [tuple(self.lots[0])] + self.lots[1:]), False)
        self.assertIs(self.judged([list(pair) for pair in self.pairs], self.lots), False)
        self.assertIs(is_shutter(P, self.ROW, (self.pairs, self.lots, [])), False)
        self.assertIs(is_shutter(P, self.ROW, (self.pairs,)), False)

    def test_what_is_no_place(self):
        for thing in (5, -1, 10 ** 59, "0", None, (), [], {}):
            self.assertIs(self.judged(self.pairs + [(thing, thing)], self.lots), False)
            self.assertIs(self.judged(self.pairs + [(0, thing)], self.lots), False)
            self.assertIs(self.judged(self.pairs, [self.lots[0] + [thing]] + self.lots[1:]), False)

    def test_odd_things(self):
        for thing in odd_things() + odd_integers() + odd_strings() + [""]:
            self.assertIs(is_shutter(P, self.ROW, thing), False)
            for spoiled in [(thing, self.lots), (self.pairs, thing), (self.pairs, [self.lots[0], thing, self.lots[2]])]:
                if thing != self.lots[1]:
                    self.assertIs(is_shutter(P, self.ROW, spoiled), False)
            if not (thing == 1 and type(thing) is int):
                self.assertIs(is_shutter(P, self.ROW, (self.pairs + [thing], self.lots)), False)
