"""Points 11.1, 11.2 and 11.3: terms, and what programs bring about in every finite world."""

import random
import unittest

from runsback.algebra import again, behind, one_of
from runsback.comparing import within
from runsback.covers import reached
from runsback.effects import Effects, effects, has, lot_of
from runsback.errors import NoRow, OtherDeeds, TooDeep, TooLarge, TooMany
from runsback.programs import Program
from runsback.rings import beyond_finite, sure, terms, within_finite, wound
from runsback.rows import undone
from runsback.webs import Web, basis, keeps, web_of
from tests.samples import (chain_and_choices, chance_programs, chance_world, nets_up_to, odd_integers, odd_strings, odd_things,
                           rows_of_block, slow_keeps, slow_led, slow_net, slow_web)

P = Program("ab", {}, (("loop", (("do", "ab"),)), ("do", "B")))
A, B = ("do", "a"), ("do", "b")
FOUR = ("either", ((A,), (B,), (("do", "ab"),), ()))
THREE = (("loop", (A,)), B) * 3
DEEP = ("either", (THREE,))


def of(*body, deeds="ab", parts=None):
    return Program(deeds, parts or {}, body)


def loop_of(*rows):
    return ("loop", (("either", tuple([(("do", row),) for row in rows])),))


def web(*rows):
    return web_of("ab", rows)


def slow_terms(program, block):
    """The terms of a block word by word, with the rows of rounds in the place of webs."""
    found = [(("",), ())]
    for statement in block:
        more = slow_statement_terms(program, statement)
        found = [(rows[:-1] + (slow_net(rows[-1] + others[0]),) + others[1:], webs + further)
                 for rows, webs in found for others, further in more]
    return found


def slow_statement_terms(program, statement):
    word, inner = statement
    if word == "do":
        return [((slow_net(inner),), ())]
    if word in ("either", "other"):
        return [term for block in inner for term in slow_terms(program, block)]
    if word == "loop":
        return [(("", ""), (sorted({slow_net(row) for row in rows_of_block(program.parts, inner, 1)}),))]
    if word == "part":
        return slow_terms(program, program.parts[inner])
    # The nets of an undone term are those of its rows and webs undone, from the last one to the first one.
    return [(tuple([undone(row) for row in rows[::-1]]), webs[::-1]) for rows, webs in slow_terms(program, inner)]


def lot_of_net(deeds, one):
    lot = lot_of(deeds, [""])
    for at in range(0, len(one), 12):
        lot = behind(lot, lot_of(deeds, [one[at:at + 12]]))
    return lot


def slow_wound(program):
    """The effects of all nets of the terms, put together of effects."""
    lot = lot_of(program.deeds, [])
    for rows, webs in terms(program):
        whole = lot_of_net(program.deeds, rows[0])
        for row, each in zip(rows[1:], webs):
            kept = lot_of(program.deeds, [])
            for one in basis(each):
                kept = one_of(kept, one_of(lot_of_net(program.deeds, one), lot_of_net(program.deeds, undone(one))))
            whole = behind(behind(whole, again(kept)), lot_of_net(program.deeds, row))
        lot = one_of(lot, whole)
    return lot


def depth(program):
    return max([len(webs) for _, webs in terms(program)])


def small_programs(seed, many, deepest=2):
    """Programs by chance with few terms that are not too deep."""
    found = []
    for program in chance_programs(seed, many):
        try:
            if depth(program) <= deepest:
                found.append(program)
        except TooMany:
            continue
    return found


class TermsTest(unittest.TestCase):
    def test_plain(self):
        self.assertEqual(terms(P), [(("", "B"), (web("ab"),))])
        self.assertEqual(terms(of()), [(("",), ())])
        self.assertEqual(terms(of(("do", ""))), [(("",), ())])
        self.assertEqual(terms(of(("do", "abBb"))), [(("ab",), ())])
        self.assertEqual(terms(of(("do", "ab"), ("do", "Ba"), ("do", ""))), [(("aa",), ())])

    def test_choices(self):
        for word in ("either", "other"):
            self.assertEqual(terms(of((word, ((A,), (B,))))), [(("a",), ()), (("b",), ())])
            self.assertEqual(terms(of((word, ((B,), (), (A,), (B,))))), [(("b",), ()), (("",), ()), (("a",), ()), (("b",), ())])
            self.assertEqual(terms(of((word, ((A, B), (), (("loop", (A,)),))))),
                             [(("ab",), ()), (("",), ()), (("", ""), (web("a"),))])

    def test_the_last_statement_changes_fastest(self):
        choice = ("either", ((("do", "a"),), (("do", "b"),)))
        self.assertEqual([rows[0] for rows, _ in terms(of(choice, ("other", ((("do", "A"),), (), (("do", "BB"),)))))],
                         ["", "a", "aBB", "bA", "b", "B"])
        self.assertEqual([rows[0] for rows, _ in terms(of(choice, choice, choice))],
                         ["aaa", "aab", "aba", "abb", "baa", "bab", "bba", "bbb"])

    def test_loops(self):
        self.assertEqual(terms(of(("loop", ()))), [(("", ""), (web(),))])
        self.assertEqual(terms(of(("loop", (("do", "aA"),)))), [(("", ""), (web(),))])
        self.assertEqual(terms(of(A, loop_of("ab", "b"), B, ("loop", (("do", "aa"),)))),
                         [(("a", "b", ""), (web("a", "b"), web("aa")))])
        self.assertEqual(terms(of(("loop", (("loop", (A,)), B)))), [(("", ""), (web("b", "a"),))])
        self.assertEqual(terms(of(("loop", (B, ("loop", (A,)), B)))), [(("", ""), (web("bb", "baB"),))])
        self.assertEqual(terms(of(("loop", (("other", ((A,), (B,))), ("either", ((A,), (B,))))))),
                         [(("", ""), (web("aa", "ab", "ba", "bb"),))])
        self.assertEqual(terms(of(("loop", (("loop", (("loop", (("do", "ab"),)),)),)))), [(("", ""), (web("ab"),))])

    def test_loops_are_one_term(self):
        self.assertEqual(terms(of(("loop", (FOUR, FOUR, FOUR, FOUR)))), [(("", ""), (web("a", "b"),))])
        self.assertEqual(terms(of(("undo", (("loop", (FOUR, FOUR, FOUR)),)))), [(("", ""), (web("a", "b"),))])

    def test_parts_and_undos(self):
        parts = {"x": (("either", ((A, B), (("loop", (("do", "ab"),)),))), ("do", "a"))}
        inner = [(("aba",), ()), (("", "a"), (web("ab"),))]
        back = [(("ABA",), ()), (("A", ""), (web("ab"),))]
        self.assertEqual(terms(of(("part", "x"), parts=parts)), inner)
        self.assertEqual(terms(of(("undo", (("part", "x"),)), parts=parts)), back)
        self.assertEqual(terms(of(("undo", (("undo", (("part", "x"),)),)), parts=parts)), inner)
        self.assertEqual(terms(of(("undo", (A, ("do", "bb")))))[0][0], ("BBA",))

    def test_the_order_in_undos(self):
        one, other = ("either", ((A,), (B,))), ("either", ((("do", "aa"),), (("do", "bb"),), ()))
        self.assertEqual([rows[0] for rows, _ in terms(of(("undo", (one, other))))],
                         ["AAA", "AAB", "BBA", "BBB", "A", "B"])
        self.assertEqual([rows[0] for rows, _ in terms(of(("undo", (("undo", (one, other)),))))],
                         ["aaa", "abb", "a", "baa", "bbb", "b"])

    def test_undo_of_a_loop(self):
        self.assertEqual(terms(of(("undo", (("loop", (("do", "aab"),)), B)))), [(("B", ""), (web("aab"),))])
        self.assertEqual(terms(of(("undo", (("loop", (A, ("loop", (B,)))), ("loop", (("do", "ba"),)), B)))),
                         [(("B", "", ""), (web("ba"), web("a", "b")))])

    def test_webs_beyond_the_rows_of_web_of(self):
        program = of(("loop", (("do", "a" * 12), ("do", "a" * 12), ("either", ((), (("do", "b" * 12), ("do", "b" * 12)))))))
        (rows, webs), = terms(program)
        self.assertEqual(rows, ("", ""))
        self.assertEqual(basis(webs[0]), ["a" * 24, "b" * 24])

    def test_by_chance(self):
        several = 0
        for program in chance_programs(151, 150):
            expected = slow_terms(program, program.body)
            if len(expected) > 32:
                with self.assertRaises(TooMany):
                    terms(program)
                continue
            found = terms(program)
            self.assertIs(type(found), list)
            if "undo" not in str(program.body) + str(program.parts):
                self.assertEqual([rows for rows, _ in found], [rows for rows, _ in expected])
                pairs = list(zip(found, expected))
            else:
                # Where blocks are undone, the terms come in another order.
                self.assertEqual(sorted([rows for rows, _ in found]), sorted([rows for rows, _ in expected]))
                pairs = list(zip(found, expected)) if len(found) == 1 else []
            for (_, webs), (_, rounds) in pairs:
                self.assertEqual(len(webs), len(rounds))
                for each, rows in zip(webs, rounds):
                    several += 1
                    self.assertIs(type(each), Web)
                    self.assertEqual(each.deeds, "ab")
                    self.assertTrue(all([keeps(each, row) for row in rows]))
                    ways = slow_web("ab", rows)
                    self.assertTrue(all([slow_keeps(ways, one) for one in basis(each)]))
        self.assertTrue(several > 50)

    def test_too_many(self):
        half = (FOUR, FOUR)
        just = of(("either", (half, half)))
        self.assertEqual(len(terms(just)), 32)
        self.assertEqual(len(terms(of(FOUR, FOUR, ("either", ((A,), (A,)))))), 32)
        self.assertEqual(len(terms(of(("undo", (("either", (half, half)),))))), 32)
        self.assertEqual(len(terms(of(("either", ((A,), (B,))), ("undo", half)))), 32)
        for program in [of(("either", (half, half, ()))), of(FOUR, FOUR, FOUR), of(("undo", (FOUR, FOUR, FOUR))),
                        of(FOUR, ("undo", half)), of(("either", ((A,), (B,), ())), ("undo", half)),
                        of(("part", "x"), ("part", "x"), parts={"x": (FOUR, ("other", ((A,), (B,))))}),
                        of(*([FOUR] * 8)), of(("either", ((("either", (half, half)),), (("loop", ()),))))]:
            for call in (terms, wound, lambda other: sure(other, "a"), lambda other: beyond_finite(P, other),
                         lambda other: within_finite(P, other)):
                with self.assertRaises(TooMany) as caught:
                    call(program)
                self.assertEqual(caught.exception.most, 32)

    def test_alike_ones(self):
        self.assertEqual(terms(of(("either", ((A,), (A,))), ("either", ((), (), ())))), [(("a",), ())] * 6)

    def test_any_depth(self):
        (rows, webs), = terms(of(DEEP, DEEP))
        self.assertEqual((rows, len(webs)), (("",) + ("b",) * 6, 6))

    def test_new_each_time(self):
        terms(P).clear()
        self.assertEqual(len(terms(P)), 1)


class SureTest(unittest.TestCase):
    def assertSure(self, program, sures, others):
        lot = wound(program)
        for row in sures:
            self.assertIs(sure(program, row), True)
            self.assertTrue(has(lot, row))
        for row in others:
            self.assertIs(sure(program, row), False)
            self.assertFalse(has(lot, row))

    def test_examples(self):
        self.assertIs(has(effects(P), "BAB"), False)
        self.assertIs(sure(P, "BAB"), True)
        self.assertIs(sure(P, "A"), False)

    def test_depth_0(self):
        self.assertSure(of(), ["", "aA"], ["a", "B", "ab"])
        self.assertSure(of(FOUR, ("do", "a")), ["aa", "ba", "aba", "a", "bBa"], ["", "A", "ab", "bba"])

    def test_depth_1(self):
        self.assertSure(of(("loop", (A,))), ["", "a", "A", "A" * 200], ["b", "aB"])
        self.assertSure(of(B, ("loop", (("do", "aab"),)), ("do", "B")), ["", "baa", "baabB", "AAB", "baabaa"], ["aab", "ba", "BAA"])
        self.assertSure(P, ["B", "a", "aba", "BAB", "BABAB", "ab" * 99 + "a"], ["", "A", "b", "ab", "BA"])
        self.assertSure(of(("loop", (("either", ((("do", "aa"),), (("do", "aaa"),))),))), ["A", "a"], ["b"])

    def test_depth_2(self):
        program = of(("loop", (A,)), ("loop", (B,)))
        self.assertSure(program, ["", "a", "b", "AB", "aaabb", "AAAbbb", "BB"], ["ba", "BA", "aba", "bab"])
        program = of(("loop", (("do", "ab"),)), B, ("loop", (("do", "ba"),)))
        self.assertSure(program, ["b", "bba", "BAb", "bAB", "abb", "BAbAB"], ["a", "", "B", "bb", "A"])
        program = of(("loop", (A,)), ("loop", (A,)))
        self.assertSure(program, ["", "a", "A" * 9], ["b"])

    def test_by_chance(self):
        found = {0: 0, 1: 0, 2: 0}
        for program in small_programs(152, 150):
            found[depth(program)] += 1
            lot = slow_wound(program)
            self.assertIs(type(wound(program)), Effects)
            self.assertEqual(wound(program), lot)
            for row in nets_up_to("ab", 3):
                self.assertIs(sure(program, row), has(lot, row))
            self.assertIsNone(beyond_finite(program, program))
        self.assertTrue(min(found.values()) > 10)

    def test_by_chance_in_worlds(self):
        chance = random.Random(153)
        some = 0
        for program in small_programs(154, 60):
            world = chance_world(chance, "ab", chance.randint(2, 6))
            goals = [reached(world, program, standing) for standing in range(world.size)]
            for row in nets_up_to("ab", 3):
                if sure(program, row):
                    some += 1
                    self.assertTrue(all([slow_led(world, standing, row) in goals[standing] for standing in range(world.size)]))
        self.assertTrue(some > 100)

    def test_errors(self):
        many, deep = of(FOUR, FOUR, FOUR, DEEP), of(*THREE)
        for thing in odd_things() + odd_integers() + odd_strings() + ["c", "C", "abc"]:
            for program in (P, many, deep):
                with self.assertRaises(NoRow):
                    sure(program, thing)
        with self.assertRaises(TooMany):
            sure(many, "a")
        with self.assertRaises(TooMany):
            wound(many)
        for program in (deep, of(("either", ((A,), THREE))), of(("undo", THREE)), of(("part", "x"), parts={"x": THREE})):
            for call in (wound, lambda other: sure(other, "a"), lambda other: within_finite(P, other),
                         lambda other: beyond_finite(P, other)):
                with self.assertRaises(TooDeep) as caught:
                    call(program)
                self.assertEqual(caught.exception.most, 2)

    def test_just_not_too_deep(self):
        self.assertIs(sure(of(*THREE[:4]), "bb"), True)
        self.assertIs(sure(of(("loop", THREE)), "bAb" + "B" * 5), True)
        self.assertIs(sure(of(("either", (THREE[:4], THREE[2:]))), "AAbb"), True)


class TooLargeTest(unittest.TestCase):
    def rounds(self, ahead):
        """A program of depth 1 whose wound effects have 287 states and so many more."""
        loops = [("loop", (("do", "a" * 11),)), ("loop", (("do", "a" * 12), A))]
        rows = [("do", "b" * min(12, ahead - done)) for done in range(0, ahead, 12)]
        return of(*rows, ("either", ((loops[0],), (loops[1],))))

    def test_wound(self):
        self.assertEqual(len(wound(self.rounds(13)).steps), 300)
        for ahead in (14, 20):
            with self.assertRaises(TooLarge) as caught:
                wound(self.rounds(ahead))
            self.assertEqual(caught.exception.most, 300)
            self.assertIs(sure(self.rounds(ahead), "b" * ahead + "A" * 55), True)
            self.assertIs(sure(self.rounds(ahead), "b" * ahead + "A" * 54), False)

    def test_of_the_other(self):
        self.assertIs(within_finite(of(("do", "b" * 12), B), self.rounds(13)), True)
        for call in (within_finite, beyond_finite):
            with self.assertRaises(TooLarge) as caught:
                call(of(("do", "b" * 12), B), self.rounds(14))
            self.assertEqual(caught.exception.most, 300)

    def test_of_the_one(self):
        other = of(("loop", (A,)), deeds="abc")
        self.assertEqual(beyond_finite(chain_and_choices(44), other), "c" * 44 + "a" * 8)
        for call in (within_finite, beyond_finite):
            with self.assertRaises(TooLarge):
                call(chain_and_choices(45), other)


class FiniteTest(unittest.TestCase):
    def test_plain(self):
        for one, other, expected in [
                (of(), of(), None), (of(("loop", (A,))), of(("loop", (("do", "A"),))), None), (P, P, None),
                (of(A), of(), "a"), (of(), of(A), ""), (of(("loop", (A,))), of(loop_of("aa")), "a"),
                (of(loop_of("aa", "aaa")), of(("loop", (("do", "A"),))), None),
                (of(loop_of("a", "b")), of(("loop", (A,)), ("loop", (B,))), "ba"),
                (of(loop_of("a", "b", "A", "B")), of(loop_of("a", "b")), None), (of(("do", "BAB")), P, None),
                (of(loop_of("BA"), ("do", "B")), P, None), (of(loop_of("BA")), P, "")]:
            self.assertEqual(beyond_finite(one, other), expected)
            self.assertIs(within_finite(one, other), expected is None)

    def test_in_finite_worlds_alone(self):
        pairs = [(of(("loop", (A,))), of(("loop", (("do", "A"),)))), (of(loop_of("ab", "b")), of(loop_of("A", "b"))),
                 (P, of(loop_of("BA"), ("do", "B")))]
        chance = random.Random(155)
        for one, other in pairs:
            self.assertEqual((within(one, other), within(other, one)), (False, False))
            self.assertEqual((within_finite(one, other), within_finite(other, one)), (True, True))
            for _ in range(5):
                world = chance_world(chance, "ab", chance.randint(1, 9))
                for standing in range(world.size):
                    self.assertEqual(reached(world, one, standing), reached(world, other, standing))

    def test_by_chance(self):
        chance = random.Random(156)
        programs = small_programs(157, 150)
        found = {True: 0, False: 0}
        for one, other in zip(chance_programs(158, len(programs)), programs):
            first = effects(one)
            row = beyond_finite(one, other)
            found[row is None] += 1
            self.assertIs(within_finite(one, other), row is None)
            if row is not None:
                self.assertTrue(has(first, row) and not sure(other, row))
            for net in nets_up_to("ab", 3 if row is None else min(len(row), 4)):
                if net == row:
                    break
                self.assertFalse(has(first, net) and not sure(other, net))
            if row is None:
                world = chance_world(chance, "ab", 5)
                for standing in range(5):
                    self.assertLessEqual(set(reached(world, one, standing)), set(reached(world, other, standing)))
            if within(one, other):
                self.assertIsNone(row)
        self.assertTrue(found[True] > 5 and found[False] > 5)

    def test_order_of_errors(self):
        large, deep = chain_and_choices(45), of(*THREE, deeds="abc")
        many = of(FOUR, FOUR, FOUR, DEEP, deeds="abc")
        for call in (within_finite, beyond_finite):
            for one, other in [(P, large), (large, P), (P, deep), (of(deeds="a"), of(*[FOUR] * 3))]:
                with self.assertRaises(OtherDeeds):
                    call(one, other)
            with self.assertRaises(TooMany):
                call(large, many)
            with self.assertRaises(TooDeep):
                call(large, deep)
            with self.assertRaises(TooMany):
                call(large, large)
        self.assertIsNone(beyond_finite(many, of(loop_of("a", "b"), deeds="abc")))
        self.assertIsNone(beyond_finite(deep, of(loop_of("a", "b"), deeds="abc")))
