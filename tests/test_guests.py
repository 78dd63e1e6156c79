"""Point 12.1: plans made for the very world that is handed in."""

import copy
import random
import unittest

from runsback.covers import ended
from runsback.errors import NoRow, OtherDeeds, TooDeep, TooMany
from runsback.flows import flow
from runsback.guests import plan_in
from runsback.homes import home
from runsback.moving import letter_moves, plan_move
from runsback.plans import is_plan, row_of
from runsback.programs import Program
from runsback.rings import sure, terms
from runsback.webs import as_world, web_of
from runsback.worlds import World, beside, move_of, order
from tests.samples import (chance_product, chance_row, chance_world, flipped, nets_up_to, odd_integers, odd_strings,
                           odd_things, slow_led, slow_row)
from tests.test_rings import A, B, DEEP, FOUR, P, THREE, loop_of, of, small_programs

ONE = World("ab", {"a": (0,), "b": (0,)})
W = World("ab", {"a": (1, 2, 0), "b": (0, 2, 1)})


def all_times(thing):
    """All integers in the pairs of rounds of a plan, and the numbers of choices."""
    if isinstance(thing, int):
        return [thing]
    return [number for item in thing for number in all_times(item)]


def ladder(levels, rungs):
    """A program whose loop must be gone so often as many rungs, multiplied level by level, to do a^n d A^n."""
    parts = {}
    names = ["one", "two", "three", "four"]

    def statement(level, left):
        if level == levels:
            return ("do", "d")
        if left == 0:
            name = names[len(parts)]
            parts[name] = ()
            parts[name] = (statement(level, 5),)
            return ("part", name)
        blocks = [(("do", two + one.upper()),) for one, two in zip(rungs, rungs[1:])]
        blocks.append((("do", rungs[0]), statement(level + 1, left - 1), ("do", rungs[-1].upper())))
        return ("either", tuple(blocks))

    return Program("abcd", parts, (("loop", (statement(0, 4),)),))


class PlanInTest(unittest.TestCase):
    def assertLeads(self, world, program, row):
        plan = plan_in(world, program, row)
        self.assertIs(type(plan), tuple)
        self.assertIs(is_plan(program, plan), True)
        # In a large world asking for each standing takes long, so the move of the whole plan is taken there.
        if world.size < 30:
            ends = tuple([ended(world, program, plan, standing) for standing in range(world.size)])
        else:
            ends = plan_move(program.parts, letter_moves(world), program.body, plan)
            self.assertEqual(ends[7], ended(world, program, plan, 7))
        self.assertEqual(ends, move_of(world, row))
        for standing in range(0, world.size, 1 + world.size // 24):
            self.assertEqual(ends[standing], slow_led(world, standing, row))
        if sum(all_times(plan)) < 60:
            done = slow_row(program.parts, program.body, plan)
            self.assertEqual(ends, move_of(world, done))
        return plan

    def test_plain(self):
        self.assertLeads(W, P, "BAB")
        for row in ["B", "a", "aba", "BABABAB", "ab" * 20 + "aAB", "BA" * 60 + "B"]:
            self.assertLeads(W, P, row)
        for row in ["", "A", "b", "ab", "BA"]:
            self.assertIsNone(plan_in(W, P, row))

    def test_depth_0(self):
        self.assertEqual(plan_in(W, of(), "aA"), ())
        self.assertEqual(plan_in(W, of(("do", "abB")), "a"), ((),))
        self.assertIsNone(plan_in(W, of(A), "b"))
        self.assertIsNone(plan_in(ONE, of(A), "b"))
        program = of(FOUR, ("other", ((("do", "b"), A), (B,), ())), ("do", "A"))
        for row in ["ab", "abAb", "bA", "bbA", "abbA", "abA", "", "aB" + "bA", "aA"]:
            if sure(program, row):
                self.assertLeads(W, program, row)
            else:
                self.assertIsNone(plan_in(W, program, row))
        self.assertLeads(W, program, "bA")

    def test_many_times(self):
        world = World("ab", {"a": tuple([(s + 1) % 23 for s in range(23)]), "b": tuple(range(23))})
        program = of(loop_of("a" * 11, "a" * 12))
        for row in ["a", "A", "a" * 199, "A" * 200, "a" * 7]:
            self.assertLeads(world, program, row)
        self.assertIsNone(plan_in(world, program, "b"))
        plan = self.assertLeads(world, of(("loop", (A,))), "A")
        self.assertEqual(plan, ((((((),), 22),)),))

    def test_very_many_times(self):
        # Cycles of 2, 3, 5, 7 and 6 standings and 1 that stays: the row so often leads all to themselves.
        move, start = [], 0
        for size in (2, 3, 5, 7, 6, 1):
            move += [start + (at + 1) % size for at in range(size)]
            start += size
        other = [at for at in range(23, -1, -1)]
        one, two = World("ab", {"a": tuple(move), "b": tuple(other)}), World("ab", {"a": tuple(other), "b": tuple(move)})
        self.assertEqual(order(one, "a"), 210)
        program = of(("loop", (A, ("loop", (("do", "ba"),)))), ("loop", (("do", "abb"),)))
        for world in (one, two, beside(one, two)):
            for row in ["A", "AB", "abAB", "BBA", "baBA", "AAABBA", "ABABABab"]:
                self.assertEqual(sure(program, row), plan_in(world, program, row) is not None)
                if sure(program, row):
                    self.assertLeads(world, program, row)

    def test_loops_in_loops(self):
        program = of(("loop", (A, ("loop", (B, ("loop", (("do", "aab"),)))), ("do", "B"))))
        for row in ["aB", "abB", "abaabB", "bA", "bBA", "baBABBA", "aBabBaB", "abbaB", "bABB", "ABAbBA"]:
            if sure(program, row):
                self.assertLeads(W, program, row)
            else:
                self.assertIsNone(plan_in(W, program, row))
        for row in ["aB", "bA", "abB", "aaabB", "abBaB"]:
            self.assertLeads(W, program, row)

    def test_undos(self):
        chance = random.Random(160)
        body = (A, ("loop", (("do", "ab"), ("either", ((B,), (A, A))))), ("loop", (("do", "ba"),)), B)
        rows = ["", "A", "ab", "aBB", "abab"]
        rows += ["a" + chance_product(chance, ["abb", "abaa"], 4) + chance_product(chance, ["ba"], 3) + "b" for _ in range(8)]
        for times in range(4):
            block = body
            for _ in range(times):
                block = (("undo", block),)
            some = 0
            for row in rows:
                one = flipped(row) if times % 2 else row
                if sure(of(*block), one):
                    some += 1
                    self.assertLeads(W, of(*block), one)
                    self.assertLeads(beside(W, W), of(*block), one)
                else:
                    self.assertIsNone(plan_in(W, of(*block), one))
            self.assertTrue(8 <= some < len(rows))

    def test_parts_and_empty_blocks(self):
        parts = {"one": (("loop", (("part", "two"),)), ("either", ((), (A,)))), "two": (B, ("other", ((), (("undo", (A,)),))))}
        program = of(("undo", (("part", "one"),)), ("loop", ()), parts=parts)
        for row in ["", "B", "BB", "b", "A", "AB", "ab", "aB", "Ab", "Ba", "bA", "AbA", "BabB"]:
            if sure(program, row):
                self.assertLeads(W, program, row)
            else:
                self.assertIsNone(plan_in(W, program, row))
        self.assertEqual(plan_in(W, of(("loop", ()), ("loop", (("loop", ()),))), "")[0], ())

    def test_the_term_counts(self):
        choices = ("either", ((A,), (("loop", (B,)),), (("do", "aa"), ("loop", (("do", "ab"),)))))
        program = of(choices, ("other", ((), (A,), (("do", "b"),))), ("undo", (choices,)))
        self.assertEqual(len(terms(program)), 27)
        for row in nets_up_to("ab", 4):
            if sure(program, row):
                self.assertLeads(W, program, row)
            else:
                self.assertIsNone(plan_in(W, program, row))

    def test_the_smallest_world(self):
        self.assertEqual(plan_in(ONE, of(loop_of("a", "b"), ("loop", (A,))), "abab"), ((), ()))
        self.assertEqual(plan_in(ONE, P, "BABAB"), ((), ()))

    def test_worlds_of_many_kinds(self):
        worlds = [ONE, chance_world(random.Random(1), "ab", 24), beside(W, chance_world(random.Random(2), "ab", 17)),
                  beside(W, ONE), home("ab", ["abab", "aab"], ["ab" * 20 + "a", "b"]), home("ab", [], ["a" * 60, "b" * 40, "ab"]),
                  as_world(web_of("ab", ["aa", "ab", "ba", "bb"])), as_world(web_of("ab", ["a", "b"])),
                  beside(beside(W, W), home("ab", ["aaabb"], ["ab" * 30, "bbA" * 20, "a" * 60]))]
        self.assertTrue(max([world.size for world in worlds]) > 1000)
        program = of(loop_of("aab", "bA"), B, loop_of("ab", "bbb"))
        for world in worlds:
            for row in ["b", "aabbab", "aBbBAA" + "b", "BAAb", "BAAbBA", "bBBB", "aBb", "bbb", "bAb", "bABA", "abb"]:
                if sure(program, row):
                    self.assertLeads(world, program, row)
                else:
                    self.assertIsNone(plan_in(world, program, row))

    def test_by_chance(self):
        chance = random.Random(161)
        found = {True: 0, False: 0}
        for program in small_programs(162, 80):
            for row in nets_up_to("ab", 2) + [chance_row(chance, "ab", 8) for _ in range(3)]:
                found[sure(program, row)] += 1
                world = chance_world(chance, "ab", chance.choice([1, 2, 3, 5, 9, 24]))
                if sure(program, row):
                    self.assertLeads(world, program, row)
                else:
                    self.assertIsNone(plan_in(world, program, row))
        self.assertTrue(min(found.values()) > 200)

    def test_by_chance_two_loops(self):
        chance = random.Random(163)
        for _ in range(120):
            deeds = chance.choice(["ab", "abc"])
            lots = [[chance_row(chance, deeds, chance.choice([2, 4, 7])) for _ in range(chance.randint(1, 4))] for _ in range(2)]
            middle = chance_row(chance, deeds, 3)
            program = of(loop_of(*lots[0]), ("do", middle), loop_of(*lots[1]), deeds=deeds)
            world = chance_world(chance, deeds, chance.choice([2, 4, 24]))
            for _ in range(3):
                row = chance_product(chance, lots[0], 6) + middle + chance_product(chance, lots[1], 6)
                self.assertIs(sure(program, row), True)
                self.assertLeads(world, program, row)

    def test_long_rows(self):
        chance = random.Random(164)
        for _ in range(5):
            lots = [[chance_row(chance, "ab", 8) for _ in range(3)] for _ in range(2)]
            program = of(loop_of(*lots[0]), loop_of(*lots[1]))
            row = chance_product(chance, lots[0], 40)[:100] + chance_product(chance, lots[1], 40)[:100]
            world = chance_world(chance, "ab", 24)
            if sure(program, row):
                self.assertLeads(world, program, row)
            else:
                self.assertIsNone(plan_in(world, program, row))
        self.assertLeads(chance_world(chance, "ab", 24), of(loop_of("a", "b")), "".join([chance.choice("aAbB") for _ in range(200)]))
        self.assertLeads(W, of(loop_of("a", "b")), row_of(of(*[("do", "ab" * 6)] * 3, ("loop", (("do", "ab" * 6),))),
                                                         ((), (), (), ((((),), 400),))))

    def test_rounds_that_come_again_and_again(self):
        chance = random.Random(165)
        for levels, rungs, least in [(3, "ab", 8), (10, "ab", 1024), (6, "abc", 729), (5, "abcd", 1024)]:
            program = ladder(levels, rungs)
            self.assertTrue(flow(program)[0] <= 60)
            world = chance_world(chance, "abcd", 24)
            row = "a" * levels + "d" + "A" * levels
            plan = self.assertLeads(world, program, row)
            self.assertTrue(len(plan[0]) <= 4 * least)

    def test_none_in_any_world_for_what_is_not_sure(self):
        for program, row in [(of(("loop", (("do", "aa"),))), "a"), (P, ""), (of(("loop", (A,)), ("loop", (B,))), "ba"), (of(), "a")]:
            for world in (ONE, W, beside(W, W)):
                self.assertIsNone(plan_in(world, program, row))

    def test_nothing_is_changed(self):
        parts = {"one": (("loop", (A,)),)}
        program = of(("part", "one"), B, parts=parts)
        world = World("ab", {"a": (1, 2, 0), "b": (0, 2, 1)})
        plan = plan_in(world, program, "Ab")
        self.assertEqual((program, world), (of(("part", "one"), B, parts=parts), W))
        self.assertEqual(plan_in(world, copy.deepcopy(program), "Ab"), plan)

    def test_errors(self):
        other = of(FOUR, FOUR, FOUR, deeds="abc")
        many, deep = of(FOUR, FOUR, FOUR, DEEP), of(*THREE)
        for thing in odd_things() + odd_integers() + odd_strings() + ["c", "C", "abc"]:
            with self.assertRaises(OtherDeeds):
                plan_in(W, other, thing)
            for program in (P, many, deep):
                with self.assertRaises(NoRow):
                    plan_in(W, program, thing)
        with self.assertRaises(OtherDeeds):
            plan_in(World("a", {"a": (0,)}), P, "a")
        with self.assertRaises(TooMany) as caught:
            plan_in(W, many, "a")
        self.assertEqual(caught.exception.most, 32)
        with self.assertRaises(TooDeep) as caught:
            plan_in(W, deep, "a")
        self.assertEqual(caught.exception.most, 2)

    def test_at_the_bounds(self):
        half = (FOUR, FOUR)
        just = of(("either", (half, half)))
        self.assertEqual(len(terms(just)), 32)
        self.assertLeads(W, just, "ba")
        self.assertIsNone(plan_in(W, just, "A"))
        with self.assertRaises(TooMany):
            plan_in(W, of(("either", (half, half, ()))), "ba")
        self.assertLeads(W, of(*THREE[:4]), "AbbB" + "b")
        for program in (of(*THREE), of(("either", ((A,), THREE))), of(("undo", THREE))):
            with self.assertRaises(TooDeep):
                plan_in(W, program, "a")
