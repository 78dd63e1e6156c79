"""Points 13.1 and 13.2: towers, and worlds that deny."""

import copy
import random
import unittest

from runsback.errors import NoRow, TooDeep, TooMany
from runsback.programs import Program
from runsback.rings import sure, terms
from runsback.rows import net
from runsback.towers import denial, is_denial, stand
from runsback.webs import basis, web_of
from runsback.worlds import World, beside, move_of
from tests.samples import (chance_product, chance_row, chance_rows, chance_world, flipped, nets_up_to, odd_integers, odd_strings,
                           odd_things, slow_led)
from tests.test_rings import A, B, DEEP, FOUR, P, THREE, loop_of, of, small_programs

ONE = World("ab", {"a": (0,), "b": (0,)})
TWO = World("ab", {"a": (1, 0), "b": (0, 1)})
W = World("ab", {"a": (1, 2, 0), "b": (0, 2, 1)})
WRONG_ROWS = odd_things() + odd_integers() + odd_strings() + ["c", "C", "abc"]
# A row that is not sure here, but cannot be told from a sure one by where it leads in one folded world.
CLOSE = of(loop_of("abbb", "BA"), ("do", "aa"), loop_of("BB", "b"))


def slow_stand(tower, row):
    """The stand, the ways being written down one by one."""
    worlds, starts, booked = tower
    at, gone = starts, []
    for letter in row:
        led = tuple([slow_led(world, s, letter) for world, s in zip(worlds, at)])
        gone.append((at, letter) if letter.islower() else (led, letter.lower()))
        at = led
    return (at, tuple(sorted([way for way in set(gone) if gone.count(way) % 2])) if booked else ())


def slow_stands(tower, term):
    """The set of the stands of all nets of a term, found by going on until no stand is new."""
    def step(state, row):
        at, odd = state
        led, more = slow_stand((tower[0], at, tower[2]), row)
        return (led, odd ^ frozenset(more))

    rows, webs = term
    states = {step((tower[1], frozenset()), rows[0])}
    for row, web in zip(rows[1:], webs):
        waiting = list(states)
        while waiting:
            state = waiting.pop()
            for one in basis(web):
                for letters in (one, flipped(one)):
                    fresh = step(state, letters)
                    if fresh not in states:
                        states.add(fresh)
                        waiting.append(fresh)
        states = {step(state, row) for state in states}
    return {(at, tuple(sorted(odd))) for at, odd in states}


def chance_tower(chance, deeds, most):
    """A tower by chance, the sizes of whose worlds multiplied are at most so many."""
    worlds, size = [], 1
    while not worlds or (len(worlds) < 4 and chance.random() < 0.5):
        worlds.append(chance_world(chance, deeds, chance.randint(1, min(24, max(1, most // size)))))
        size *= worlds[-1].size
    return (tuple(worlds), tuple([chance.randrange(world.size) for world in worlds]), chance.random() < 0.6)


class StandTest(unittest.TestCase):
    def test_plain(self):
        self.assertEqual(stand(((TWO,), (0,), True), "a"), ((1,), (((0,), "a"),)))
        self.assertEqual(stand(((TWO,), (0,), True), "A"), ((1,), (((1,), "a"),)))
        self.assertEqual(stand(((TWO,), (0,), True), "aa"), ((0,), (((0,), "a"), ((1,), "a"))))
        self.assertEqual(stand(((TWO,), (0,), True), "AbA"), ((0,), (((0,), "a"), ((1,), "a"), ((1,), "b"))))
        self.assertEqual(stand(((TWO,), (0,), True), "aaaa"), ((0,), ()))
        self.assertEqual(stand(((TWO,), (0,), True), "bab"), ((1,), (((0,), "a"), ((0,), "b"), ((1,), "b"))))
        self.assertEqual(stand(((TWO, W), (1, 2), True), "b"), ((1, 1), (((1, 2), "b"),)))
        self.assertEqual(stand(((TWO, W), (1, 2), True), "B"), ((1, 1), (((1, 1), "b"),)))
        self.assertEqual(stand(((TWO, W), (1, 2), True), ""), ((1, 2), ()))
        self.assertEqual(stand(((TWO, W), (1, 2), False), "bab"), ((0, 1), ()))
        self.assertEqual(stand(((ONE,), (0,), True), "ab"), ((0,), (((0,), "a"), ((0,), "b"))))
        self.assertEqual(stand(((ONE,), (0,), True), "aa"), ((0,), ()))

    def test_kinds(self):
        found = stand(((TWO, W, ONE, TWO), (0, 0, 0, 1), True), "ab")
        self.assertIs(type(found), tuple)
        self.assertEqual([type(item) for item in found], [tuple, tuple])
        self.assertEqual(found, ((1, 2, 0, 0), (((0, 0, 0, 1), "a"), ((1, 1, 0, 0), "b"))))

    def test_by_chance(self):
        chance = random.Random(171)
        odd = 0
        for _ in range(300):
            deeds = chance.choice(["a", "ab", "acd"])
            tower = chance_tower(chance, deeds, 200)
            row = chance_row(chance, deeds, chance.choice([3, 10, 40]))
            found = stand(tower, row)
            self.assertEqual(found, slow_stand(tower, row))
            self.assertEqual(found, stand(tower, net(row)))
            self.assertEqual(list(found[1]), sorted(found[1]))
            odd += len(found[1])
        self.assertTrue(odd > 500)

    def test_the_same_for_nets(self):
        tower = ((W, TWO), (1, 0), True)
        for row, other in [("aA", ""), ("abBA", ""), ("abBb", "ab"), ("BAab", ""), ("bBaAab", "ab")]:
            self.assertEqual(stand(tower, row), stand(tower, other))

    def test_long_rows_in_large_worlds(self):
        chance = random.Random(172)
        worlds = (beside(chance_world(chance, "ab", 20), chance_world(chance, "ab", 10)), chance_world(chance, "ab", 10))
        row = "".join([chance.choice("aAbB") for _ in range(200)])
        self.assertEqual(stand((worlds, (199, 9), True), row), slow_stand((worlds, (199, 9), True), row))
        self.assertEqual(stand((worlds, (199, 9), False), row)[0], (move_of(worlds[0], row)[199], move_of(worlds[1], row)[9]))

    def test_errors(self):
        for thing in WRONG_ROWS:
            for tower in [((W,), (0,), True), ((W, ONE), (2, 0), False)]:
                with self.assertRaises(NoRow):
                    stand(tower, thing)


class DenialTest(unittest.TestCase):
    def assertDenied(self, program, row, found):
        self.assertIs(type(found), list)
        self.assertEqual(len(found), len(terms(program)))
        for tower in found:
            self.assertIs(type(tower), tuple)
            worlds, starts, booked = tower
            self.assertEqual((type(worlds), type(starts), type(booked)), (tuple, tuple, bool))
            self.assertTrue(1 <= len(worlds) <= 4 and len(worlds) == len(starts))
            for world, start in zip(worlds, starts):
                self.assertIs(type(world), World)
                self.assertEqual(world.deeds, program.deeds)
                self.assertIs(type(start), int)
                self.assertTrue(0 <= start < world.size)
                for deed in program.deeds:
                    self.assertEqual(sorted(world.moves[deed]), list(range(world.size)))
        self.assertIs(is_denial(program, row, found), True)

    def check(self, program, row):
        found = denial(program, row)
        if sure(program, row):
            self.assertIsNone(found)
            return None
        self.assertDenied(program, row, found)
        return found

    def test_depth_0(self):
        for program in [of(), of(A), of(FOUR), of(FOUR, ("do", "Ab"), FOUR), of(("do", "aA"))]:
            for row in nets_up_to("ab", 3) + ["a" * 200, "abAB" * 50, "aA" * 100]:
                self.check(program, row)
        self.assertEqual(len(denial(of(FOUR, FOUR), "bbb")), 16)

    def test_depth_1(self):
        for program in [P, of(("loop", (A,))), of(("loop", (("do", "aa"),))), of(B, loop_of("aab", "b"), A),
                        of(loop_of("aa", "bb", "ab")), of(loop_of("a", "b")), of(FOUR, loop_of("aaa", "bab"))]:
            for row in nets_up_to("ab", 3) + ["a" * 200, "abAB" * 50, "ab" * 99]:
                self.check(program, row)

    def test_depth_2(self):
        for program in [of(("loop", (A,)), ("loop", (B,))), of(loop_of("aa", "b"), A, loop_of("bb", "aa")), CLOSE,
                        of(loop_of("ab"), loop_of("ba")), of(loop_of("a", "bb"), loop_of("b", "aa")),
                        of(FOUR, loop_of("aab"), ("either", ((B,), (("loop", (A,)),))))]:
            for row in nets_up_to("ab", 3) + ["a" * 200, "abAB" * 50, "ba" * 99]:
                self.check(program, row)

    def test_books_are_needed(self):
        booked = 0
        for row in nets_up_to("ab", 4):
            found = self.check(CLOSE, row)
            if found is not None:
                booked += found[0][2]
        self.assertTrue(booked > 20)

    def test_at_the_bounds(self):
        half = (FOUR, FOUR)
        just = of(("either", (half, half)))
        self.assertEqual(len(terms(just)), 32)
        self.assertEqual(len(self.check(just, "A")), 32)
        self.assertIsNone(self.check(just, "ab"))
        self.assertEqual(len(self.check(of(("either", (THREE[:4], THREE[2:]))), "BBA")), 2)

    def test_by_chance(self):
        chance = random.Random(173)
        found = {True: 0, False: 0}
        for program in small_programs(174, 150):
            for row in nets_up_to("ab", 2) + [chance_row(chance, "ab", 9) for _ in range(2)]:
                found[self.check(program, row) is None] += 1
        self.assertTrue(min(found.values()) > 200)

    def test_by_chance_two_loops(self):
        chance = random.Random(175)
        found = {True: 0, False: 0}
        for _ in range(400):
            deeds = chance.choice(["ab", "ab", "abc"])
            lots = [chance_rows(chance, deeds, chance.randint(1, 4), chance.choice([2, 4, 6])) for _ in range(2)]
            middle = chance_row(chance, deeds, 3)
            program = of(("do", chance_row(chance, deeds, 2)), loop_of(*lots[0]), ("do", middle), loop_of(*lots[1]), deeds=deeds)
            # Rows in which the loops take turns more often than they may are hard to deny.
            rows = [middle.join([chance_product(chance, lot, 3) for lot in lots * 2])[:200] for _ in range(2)]
            for row in nets_up_to(deeds, 1) + rows + [chance_row(chance, deeds, 9)]:
                towers = self.check(program, row)
                if towers is not None:
                    found[towers[0][2]] += 1
        self.assertTrue(min(found.values()) > 50)

    def test_by_chance_against_all_stands(self):
        chance = random.Random(176)
        few = 0
        for _ in range(400):
            lots = [chance_rows(chance, "ab", chance.randint(1, 3), 3) for _ in range(2)]
            program = of(loop_of(*lots[0]), ("do", chance_row(chance, "ab", 2)), loop_of(*lots[1]))
            for row in nets_up_to("ab", 1) + [chance_row(chance, "ab", 4)]:
                found = self.check(program, row)
                if found is not None and sum([world.size for world in found[0][0]]) <= 6:
                    few += found[0][2]
                    self.assertNotIn(stand(found[0], row), slow_stands(found[0], terms(program)[0]))
        self.assertTrue(few > 10)

    def test_the_same_for_nets(self):
        self.assertEqual(repr([tower[1:] for tower in denial(P, "aAb")]), repr([tower[1:] for tower in denial(P, "b")]))
        self.assertIs(is_denial(P, "aAb", denial(P, "b")), True)

    def test_new_each_time(self):
        denial(P, "b").clear()
        self.assertEqual(len(denial(P, "b")), 1)

    def test_errors(self):
        many, deep = of(FOUR, FOUR, FOUR, DEEP), of(*THREE)
        calls = [denial, lambda program, row: is_denial(program, row, []), lambda program, row: is_denial(program, row, None)]
        for call in calls:
            for thing in WRONG_ROWS:
                for program in (P, many, deep):
                    with self.assertRaises(NoRow):
                        call(program, thing)
            for program in [many, of(FOUR, FOUR, FOUR), of(("either", ((FOUR, FOUR), (FOUR, FOUR), ())))]:
                with self.assertRaises(TooMany) as caught:
                    call(program, "a")
                self.assertEqual(caught.exception.most, 32)
            for program in [deep, of(("either", ((A,), THREE))), of(("undo", THREE))]:
                with self.assertRaises(TooDeep) as caught:
                    call(program, "a")
                self.assertEqual(caught.exception.most, 2)


class IsDenialTest(unittest.TestCase):
    def test_others_that_are_right(self):
        self.assertIs(is_denial(P, "A", [((TWO,), (0,), False)]), False)
        self.assertIs(is_denial(P, "A", [((TWO,), (0,), True)]), True)
        right = ((TWO, World("ab", {"a": (0, 1), "b": (1, 0)})), (1, 0), False)
        # With ab gone any number of times and then B, a is gone as often as b, or once more.
        self.assertIs(is_denial(P, "A", [((World("ab", {"a": (1, 2, 3, 0), "b": (1, 2, 3, 0)}),), (0,), False)]), False)
        three = World("ab", {"a": (1, 2, 0), "b": (2, 0, 1)})
        self.assertIs(is_denial(P, "A", [((three,), (0,), False)]), True)
        self.assertIs(is_denial(P, "A", [((three,), (2,), False)]), True)
        self.assertIs(is_denial(P, "A", [((three,), (2,), True)]), True)
        self.assertIs(is_denial(P, "A", [((three, TWO), (0, 1), False)]), True)
        self.assertIs(is_denial(P, "A", [((ONE, TWO, three, W), (0, 1, 2, 1), True)]), True)
        self.assertIs(is_denial(P, "A", [((beside(three, W),), (5,), False)]), True)
        self.assertIs(is_denial(P, "A", [((ONE, TWO), (0, 1), False)]), False)
        self.assertIs(is_denial(of(), "ab", [right]), True)
        self.assertIs(is_denial(of(), "aa", [right]), False)

    def test_books(self):
        loops = of(("loop", (("do", "aa"),)))
        self.assertIs(is_denial(loops, "a", [((ONE,), (0,), False)]), False)
        self.assertIs(is_denial(loops, "a", [((ONE,), (0,), True)]), True)
        self.assertIs(is_denial(loops, "b", [((ONE,), (0,), True)]), True)
        self.assertIs(is_denial(loops, "bb", [((ONE,), (0,), True)]), False)
        self.assertIs(is_denial(loops, "bb", [((TWO,), (0,), True)]), False)
        self.assertIs(is_denial(loops, "bb", [((World("ab", {"a": (0, 1), "b": (1, 0)}),), (0,), True)]), True)
        self.assertIs(is_denial(of(("loop", (A,)), ("loop", (B,))), "ba", [((TWO,), (0,), False)]), False)
        self.assertIs(is_denial(of(("loop", (A,)), ("loop", (B,))), "ba", [((ONE,), (0,), True)]), False)

    def test_what_the_row_shares_is_refused(self):
        for row in ["B", "a", "BAB", "aba"]:
            for tower in [((W,), (0,), True), ((ONE,), (0,), False), ((TWO, W), (0, 1), True)]:
                self.assertIs(is_denial(P, row, [tower]), False)

    def test_by_chance(self):
        chance = random.Random(177)
        found = {True: 0, False: 0}
        for program in small_programs(178, 200):
            several = terms(program)
            if len(several) > 3:
                continue
            towers = [chance_tower(chance, "ab", 3) for _ in several]
            stands = [slow_stands(tower, term) for tower, term in zip(towers, several)]
            for row in nets_up_to("ab", 2) + [chance_row(chance, "ab", 6)]:
                right = all([slow_stand(tower, row) not in all_stands for tower, all_stands in zip(towers, stands)])
                self.assertIs(is_denial(program, row, towers), right)
                found[right] += 1
        self.assertTrue(min(found.values()) > 50)

    def test_by_chance_two_loops(self):
        chance = random.Random(179)
        found = {True: 0, False: 0}
        for _ in range(60):
            rows = [chance_rows(chance, "ab", chance.randint(1, 2), 4) for _ in range(2)]
            program = of(loop_of(*rows[0]), ("do", chance_row(chance, "ab", 2)), loop_of(*rows[1]))
            tower = chance_tower(chance, "ab", 4)
            stands = slow_stands(tower, terms(program)[0])
            for row in nets_up_to("ab", 2):
                right = slow_stand(tower, row) not in stands
                self.assertIs(is_denial(program, row, [tower]), right)
                found[right] += 1
        self.assertTrue(min(found.values()) > 100)

    def test_forms(self):
        program, row = of(("either", ((A,), (("loop", (("do", "aa"),)),)))), "b"
        first, second = ((TWO,), (0,), False), ((ONE, W), (0, 2), True)
        self.assertIs(is_denial(program, row, [first, second]), True)
        self.assertIs(is_denial(program, row, [second, first]), False)
        self.assertIs(is_denial(program, row, [second, second]), True)
        for thing in [[], [first], [second], [first, second, second], (first, second), {0: first, 1: second}, [second, None],
                      [first, ((ONE, W), (0, 2), 1)], [first, ((ONE, W), (0, 2), 0)], [first, ((ONE, W), (0, 2), None)],
                      [first, ((ONE, W), (0, 2))], [first, ((ONE, W), (0, 2), True, True)], [first, [(ONE, W), (0, 2), True]],
                      [first, ([ONE, W], (0, 2), True)], [first, ((ONE, W), [0, 2], True)], [first, ((), (), True)],
                      [first, ((ONE, W), (0, 3), True)], [first, ((ONE, W), (0, -1), True)], [first, ((ONE, W), (0,), True)],
                      [first, ((ONE, W), (0, 2, 0), True)], [first, ((ONE, W), (0, True), True)], [first, ((ONE, W), (False, 2), True)],
                      [first, ((ONE, W, ONE, ONE, ONE), (0, 2, 0, 0, 0), True)], [first, ((ONE, None), (0, 0), True)],
                      [first, ((ONE, W.moves), (0, 2), True)], [first, ((W, World("a", {"a": (0,)})), (2, 0), True)],
                      [first, ((World("abc", {"a": (0,), "b": (0,), "c": (0,)}),), (0,), True)],
                      [first, ((World("ac", {"a": (0,), "c": (0,)}),), (0,), True)], [first, (W, (2,), True)],
                      [first, ((W,), 2, True)], [first, ((W,), ("2",), True)]]:
            self.assertIs(is_denial(program, row, thing), False)
        self.assertIs(is_denial(program, row, [first, ((ONE, W, ONE, ONE), (0, 2, 0, 0), True)]), True)

    def test_spoiled(self):
        half = (FOUR, FOUR)
        for program, row in [(of(("either", (half, half))), "A"), (CLOSE, "a"), (P, "b"), (of(FOUR, ("loop", (A,)), FOUR), "bbbb")]:
            found = denial(program, row)
            self.assertIs(is_denial(program, row, found), True)
            self.assertIs(is_denial(program, row, found[:-1]), False)
            self.assertIs(is_denial(program, row, found + found[-1:]), False)
            self.assertIs(is_denial(program, row, tuple(found)), False)
            for at in range(len(found)):
                for tower in [((ONE,), (0,), False), None, found[at][:2], list(found[at])]:
                    self.assertIs(is_denial(program, row, found[:at] + [tower] + found[at + 1:]), False)

    def test_exchanged(self):
        program = of(("either", ((A,), (B,))))
        four = World("ab", {"a": (1, 0, 2, 3), "b": (2, 1, 0, 3)})
        first = ((four,), (1,), False)
        second = ((four,), (2,), False)
        self.assertIs(is_denial(program, "", [first, second]), True)
        self.assertIs(is_denial(program, "", [second, first]), False)

    def test_other_things(self):
        for thing in odd_things() + odd_integers() + odd_strings():
            self.assertIs(is_denial(P, "b", thing), False)
            self.assertIs(is_denial(P, "b", [thing]), False)
            self.assertIs(is_denial(P, "b", [(thing, (0,), True)]), False)
            self.assertIs(is_denial(P, "b", [((thing,), (0,), True)]), False)
            self.assertIs(is_denial(P, "b", [((ONE,), thing, True)]), False)
            self.assertIs(is_denial(of(), "a", [((ONE,), (thing,), True)]), type(thing) is int and thing == 0)
            self.assertIs(is_denial(of(), "a", [((ONE,), (0,), thing)]), thing is True)

    def test_nothing_is_changed(self):
        towers = [((TWO, W), (0, 1), True)]
        before = copy.deepcopy(towers)
        is_denial(P, "b", towers)
        self.assertEqual(towers, before)

    def test_returned_towers_of_any_size(self):
        # The webs of both loops are long, so that the worlds multiplied are many.
        chance = random.Random(180)
        program = Program("abcd", {}, (loop_of("abcdabcdabcd", "aabbccddaabb"), loop_of("dcbadcbadcba", "ddccbbaaddcc")))
        row = "".join([chance.choice("abcd") for _ in range(200)])
        self.assertIs(is_denial(program, row, denial(program, row)), True)
        self.assertEqual(stand(denial(program, row)[0], row)[0][0] < denial(program, row)[0][0][0].size, True)
        web = web_of("ab", ["a" * 12, "ab" * 6, "bb"])
        program = of(loop_of("a" * 12, "ab" * 6, "bb"), loop_of("b" * 12, "aab" * 4))
        self.assertTrue(web.size > 10)
        for row in ["ba" * 100, "aabb" * 50, "abAB" * 50, "bbAA" * 10]:
            if sure(program, row):
                self.assertIsNone(denial(program, row))
            else:
                self.assertIs(is_denial(program, row, denial(program, row)), True)
