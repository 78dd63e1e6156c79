"""Point 9.3: what a program can bring about in one finite world."""

import copy
import random
import unittest

from runsback.covers import cover, ended, is_cover, reached, way
from runsback.errors import NoPlan, NoStanding, OtherDeeds
from runsback.flows import flow
from runsback.plans import is_plan, row_of
from runsback.programs import Program
from runsback.worlds import World, beside, order
from tests.samples import (chance_plan, chance_programs, chance_world, odd_integers, odd_strings, odd_things, slow_led,
                           slow_row)
from tests.test_worlds import wrong_standings

P = Program("ab", {}, (("loop", (("do", "ab"),)), ("do", "B")))
W = World("ab", {"a": (1, 2, 0), "b": (0, 1, 2)})
GREAT = 10 ** 50


def of(*body, deeds="ab", parts=None):
    return Program(deeds, parts or {}, body)


def slow_cover(world, program, standing):
    many, arrows = flow(program)
    found = {(0, standing)}
    while True:
        more = {(q, slow_led(world, s, x)) for place, s in found for p, x, q in arrows if p == place} | found
        if more == found:
            return found
        found = more


class EndedTest(unittest.TestCase):
    def test_plain(self):
        self.assertEqual(ended(W, P, (((((),), 2),), ()), 0), 2)
        self.assertEqual(ended(W, P, ((), ()), 1), 1)
        self.assertEqual(ended(W, of(("undo", (("do", "a"),))), (((),),), 0), 2)
        self.assertEqual(ended(W, of(), (), 2), 2)

    def test_by_chance(self):
        chance = random.Random(101)
        for program in chance_programs(102, 120):
            world = chance_world(chance, "ab", chance.randint(1, 9))
            plan = chance_plan(chance, program.parts, program.body)
            row = slow_row(program.parts, program.body, plan)
            for standing in range(world.size):
                self.assertEqual(ended(world, program, plan, standing), slow_led(world, standing, row))

    def test_great_times(self):
        a = ("loop", (("do", "a"),))
        world = World("ab", {"a": tuple([(s + 1) % 23 for s in range(23)]), "b": tuple(range(23))})

        def rounds(*times):
            return tuple([(((),), time) for time in times])

        self.assertEqual(ended(world, of(a), (rounds(GREAT),), 0), GREAT % 23)
        self.assertEqual(ended(world, of(a), (rounds(GREAT, 5, GREAT),), 3), (2 * GREAT + 8) % 23)
        nested = of(("loop", (a, ("do", "aa"))))
        self.assertEqual(ended(world, nested, ((((rounds(GREAT), ()), GREAT),),), 0), (GREAT + 2) * GREAT % 23)
        undone = of(("undo", (("loop", (("undo", (a,)), ("do", "a"))),)))
        plan = ((((((rounds(GREAT),), ()), GREAT + 1),),),)
        self.assertTrue(is_plan(undone, plan))
        self.assertEqual(ended(world, undone, plan, 4), (4 + (GREAT - 1) * (GREAT + 1)) % 23)

    def test_great_times_like_few(self):
        chance = random.Random(103)
        program = of(("loop", (("do", "ab"), ("loop", (("do", "aab"),)), ("undo", (("loop", (("do", "b"),)),)))))

        def plan_with(inner, undone, outer):
            return ((((((), ((((),), inner),), ((((((),), undone),),))), outer),)),)

        for _ in range(10):
            world = chance_world(chance, "ab", 6)
            for inner, undone, outer in [(1, 1, 1), (3, 2, 2), (5, 1, 4)]:
                few = plan_with(inner, undone, outer)
                great = plan_with(inner + 10 ** 49 * order(world, "aab"), undone + GREAT * order(world, "b"), outer)
                self.assertTrue(is_plan(program, great))
                for standing in range(6):
                    goal = slow_led(world, standing, row_of(program, few))
                    self.assertEqual(ended(world, program, few, standing), goal)
                    self.assertEqual(ended(world, program, great, standing), goal)

    def test_errors(self):
        other = World("a", {"a": (0, 1)})
        plan = (((((),), 2),), ())
        for thing in odd_things() + odd_integers() + odd_strings():
            if thing != ((), ()):
                with self.assertRaises(NoPlan):
                    ended(W, P, thing, 0)
                with self.assertRaises(NoPlan):
                    ended(W, P, thing, 3)
            with self.assertRaises(OtherDeeds):
                ended(other, P, thing, 0)
        for thing in wrong_standings(3):
            with self.assertRaises(NoStanding):
                ended(W, P, plan, thing)
            with self.assertRaises(OtherDeeds):
                ended(other, P, plan, thing)


class ReachedTest(unittest.TestCase):
    def test_example(self):
        self.assertEqual(reached(W, P, 0), [0, 1, 2])

    def test_plain(self):
        self.assertEqual(reached(W, of(("do", "a")), 2), [0])
        self.assertEqual(reached(W, of(("either", ((("do", "a"),), (("do", "b"),)))), 2), [0, 2])
        self.assertEqual(reached(W, of(("other", ((("do", "A"),), (("do", "b"),)))), 0), [0, 2])
        self.assertEqual(cover(W, of(), 1), [(0, 1), (1, 1)])
        self.assertEqual(cover(W, of(("do", "ab")), 1), [(0, 1), (1, 2), (2, 2)])

    def test_by_chance(self):
        chance = random.Random(104)
        for program in chance_programs(105, 120):
            world = chance_world(chance, "ab", chance.randint(1, 8))
            standing = chance.randrange(world.size)
            pairs = cover(world, program, standing)
            self.assertIs(type(pairs), list)
            self.assertEqual(pairs, sorted(slow_cover(world, program, standing)))
            self.assertEqual(reached(world, program, standing), [s for p, s in pairs if p == 1])
            self.assertIs(is_cover(world, program, standing, pairs), True)

    def test_new_each_time(self):
        cover(W, P, 0).clear()
        reached(W, P, 0).clear()
        self.assertEqual(len(cover(W, P, 0)), 13)
        self.assertEqual(len(reached(W, P, 0)), 3)


class WayTest(unittest.TestCase):
    def test_plain(self):
        self.assertEqual(way(W, P, 0, 0), ((), ()))
        self.assertEqual(way(W, P, 0, 2), (((((),), 2),), ()))
        self.assertIsNone(way(W, of(("do", "a")), 0, 2))

    def test_by_chance(self):
        chance = random.Random(106)
        for program in chance_programs(107, 120):
            world = chance_world(chance, "ab", chance.randint(1, 8))
            for standing in range(world.size):
                goals = reached(world, program, standing)
                for goal in range(world.size):
                    plan = way(world, program, standing, goal)
                    self.assertEqual(plan is not None, goal in goals)
                    if plan is not None:
                        self.assertIs(is_plan(program, plan), True)
                        self.assertEqual(slow_led(world, standing, row_of(program, plan)), goal)
                        self.assertEqual(ended(world, program, plan, standing), goal)

    def test_long(self):
        turning = World("a", {"a": tuple([(s + 1) % 24 for s in range(24)])})
        world = beside(beside(turning, World("a", {"a": (1, 2, 3, 4, 0)})), World("a", {"a": (1, 2, 3, 4, 5, 6, 0)}))
        program = of(("loop", (("do", "a"),)), deeds="a")
        self.assertEqual(way(world, program, 0, world.size - 1), (((((),), 839),),))

    def test_errors(self):
        for thing in wrong_standings(3):
            for call in [lambda: way(W, P, thing, 0), lambda: way(W, P, 0, thing), lambda: way(W, P, thing, thing),
                         lambda: reached(W, P, thing), lambda: cover(W, P, thing), lambda: is_cover(W, P, thing, None),
                         lambda: is_cover(W, P, thing, cover(W, P, 0))]:
                with self.assertRaises(NoStanding):
                    call()

    def test_other_deeds(self):
        for world in (World("a", {"a": (0, 1)}), World("abc", dict.fromkeys("abc", (0,))), World("ac", dict.fromkeys("ac", (0,)))):
            for thing in (0, 7, None, "a"):
                for call in [lambda: way(world, P, thing, 0), lambda: way(world, P, 0, thing), lambda: reached(world, P, thing),
                             lambda: cover(world, P, thing), lambda: is_cover(world, P, thing, None)]:
                    with self.assertRaises(OtherDeeds):
                        call()


class IsCoverTest(unittest.TestCase):
    WORLD = World("ab", {"a": (1, 2, 0, 3), "b": (0, 1, 2, 3)})

    def setUp(self):
        self.pairs = cover(self.WORLD, P, 0)

    def judged(self, thing):
        before = copy.deepcopy(thing)
        answer = is_cover(self.WORLD, P, 0, thing)
        self.assertEqual(thing, before)
        return answer

    def test_right(self):
        self.assertIs(self.judged(self.pairs), True)
        self.assertIs(self.judged(self.pairs[::-1]), True)

    def test_more_pairs(self):
        everything = [(p, s) for p in range(5) for s in range(4)]
        self.assertIs(self.judged(everything), True)
        self.assertIs(self.judged(self.pairs + [(1, 3)]), True)
        self.assertIs(self.judged(self.pairs + [(2, 3)]), False)
        self.assertIs(self.judged(self.pairs + [(2, 3), (1, 3)]), True)
        self.assertIs(self.judged(self.pairs + [(0, 1)]), True)
        self.assertIs(self.judged(self.pairs + [(0, 3)]), False)

    def test_a_pair_less_or_twice(self):
        for pair in self.pairs:
            self.assertIs(self.judged([other for other in self.pairs if other != pair]), False)
            self.assertIs(self.judged(self.pairs + [pair]), False)
        self.assertIs(self.judged([]), False)

    def test_another_start(self):
        self.assertIs(is_cover(self.WORLD, P, 3, self.pairs), False)
        self.assertIs(is_cover(self.WORLD, P, 1, self.pairs), False)

    def test_what_is_no_pair(self):
        for thing in [(5, 0), (0, 4), (-1, 0), (0, -1), (0,), (0, 0, 0), [0, 0], (10 ** 59, 0), (None, 0), ("0", 0), 0, None]:
            self.assertIs(self.judged(self.pairs + [thing]), False)

    def test_flags(self):
        for pair in ((False, False), (0, False), (False, 0)):
            self.assertIs(self.judged([pair] + [other for other in self.pairs if other != (0, 0)]), False)
        self.assertIs(self.judged([(p, True if s == 1 else s) for p, s in self.pairs]), False)

    def test_lists_and_tuples(self):
        self.assertIs(self.judged(tuple(self.pairs)), False)
        self.assertIs(self.judged([list(pair) for pair in self.pairs]), False)
        self.assertIs(self.judged({pair: True for pair in self.pairs}), False)

    def test_odd_things(self):
        for thing in odd_things() + odd_integers() + odd_strings() + [""]:
            self.assertIs(is_cover(self.WORLD, P, 0, thing), False)
            self.assertIs(is_cover(self.WORLD, P, 0, self.pairs + [thing]), False)
            self.assertIs(is_cover(self.WORLD, P, 0, [thing] * 2), False)
