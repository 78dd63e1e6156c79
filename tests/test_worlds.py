"""Points 9.1 and 9.2: finite worlds."""

import random
import unittest

from runsback.covers import cover, ended, is_cover, reached, way
from runsback.errors import BadWorld, NoRow, NoStanding, OtherDeeds, TooLarge
from runsback.programs import Program
from runsback.worlds import World, beside, led, move_of, order
from tests.samples import (chance_row, chance_world, flipped, odd_integers, odd_strings, odd_things, slow_led)

MOVES = {"a": (1, 2, 0), "b": (0, 2, 1)}
W = World("ab", MOVES)
WRONG_ROWS = odd_things() + odd_integers() + odd_strings() + ["c", "C", "abc"]


def turning(size):
    """The world in which a leads round all of so many standings."""
    return World("a", {"a": tuple([(s + 1) % size for s in range(size)])})


def wrong_standings(size):
    return odd_things() + odd_strings() + ["0", -1, size, size + 1, 10 ** 59, -(10 ** 59), False, True, (0,), None]


class WorldTest(unittest.TestCase):
    def assertBad(self, part, deeds, moves):
        with self.assertRaises(BadWorld) as caught:
            World(deeds, moves)
        self.assertEqual(caught.exception.part, part)

    def test_fields(self):
        self.assertEqual((W.deeds, W.moves, W.size), ("ab", MOVES, 3))
        self.assertIs(type(W.moves), dict)

    def test_sizes(self):
        self.assertEqual(World("a", {"a": (0,)}).size, 1)
        self.assertEqual(turning(24).size, 24)
        self.assertBad("moves", "a", {"a": ()})
        self.assertBad("moves", "a", {"a": tuple(range(25))})
        self.assertBad("moves", "a", {"a": tuple(range(10000))})

    def test_deeds(self):
        for deeds in ["", "ba", "aa", "abcde", "A", "aB", "a1", "\u00e4"] + odd_strings() + odd_things() + odd_integers():
            self.assertBad("deeds", deeds, {"a": (0,)})
            self.assertBad("deeds", deeds, None)
        self.assertEqual(World("acxz", dict.fromkeys("xzca", (1, 0))).size, 2)

    def test_no_moves(self):
        for thing in odd_things() + odd_integers() + odd_strings():
            self.assertBad("moves", "ab", thing)
            if thing != (0,):
                self.assertBad("moves", "ab", {"a": (0,), "b": thing})
                self.assertBad("moves", "ab", {"a": thing, "b": (0,)})
            if type(thing) is not int:
                self.assertBad("moves", "a", {"a": (thing,)})
                self.assertBad("moves", "a", {"a": (0, thing)})

    def test_keys(self):
        one = (0, 1)
        for moves in [{}, {"a": one}, {"b": one}, {"a": one, "b": one, "c": one}, {"a": one, "c": one}, {"a": one, "B": one},
                      {"a": one, None: one}, {"a": one, b"b": one}, {"a": one, "b": one, "A": one}, {"a": one, ("b",): one}]:
            self.assertBad("moves", "ab", moves)

    def test_moves(self):
        for move in [[0, 1], (0, 0), (1, 1), (0, 2), (1, 2), (-1, 0), (0, -1), (0,), (0, 1, 2), (0, True), (False, 1),
                     (True, False), ("0", "1"), "01", b"\x00\x01", (0, None), (0, (1,)), range(2), {0: 1, 1: 0}, (0, 10 ** 59)]:
            self.assertBad("moves", "ab", {"a": (0, 1), "b": move})
            self.assertBad("moves", "ab", {"a": move, "b": (1, 0)})
        self.assertBad("moves", "ab", {"a": (0, 1, 2), "b": (0, 1)})

    def test_copies(self):
        moves = dict(MOVES)
        world = World("ab", moves)
        moves["a"] = (0, 1, 2)
        world.moves["b"] = (0, 1, 2)
        world.moves.clear()
        self.assertEqual(world.moves, MOVES)
        self.assertEqual(led(world, 0, "a"), 1)
        self.assertEqual(world, W)

    def test_equality(self):
        self.assertTrue(W == World("ab", {"b": (0, 2, 1), "a": (1, 2, 0)}))
        self.assertFalse(W != World("ab", dict(MOVES)))
        others = [World("ab", {"a": (1, 2, 0), "b": (0, 1, 2)}), World("ac", {"a": (1, 2, 0), "c": (0, 2, 1)}),
                  World("a", {"a": (1, 2, 0)}), World("ab", {"a": (0,), "b": (0,)})]
        for other in others + odd_things() + odd_integers() + odd_strings() + [MOVES]:
            self.assertFalse(W == other)
            self.assertTrue(W != other)
            self.assertFalse(other == W)


class LedTest(unittest.TestCase):
    def test_plain(self):
        self.assertEqual([led(W, s, "a") for s in range(3)], [1, 2, 0])
        self.assertEqual([led(W, s, "A") for s in range(3)], [2, 0, 1])
        self.assertEqual([led(W, s, "ab") for s in range(3)], [2, 1, 0])
        self.assertEqual([led(W, s, "ba") for s in range(3)], [1, 0, 2])
        self.assertEqual([led(W, s, "") for s in range(3)], [0, 1, 2])
        self.assertEqual(led(turning(24), 23, "a"), 0)

    def test_by_chance(self):
        chance = random.Random(91)
        for size in [1, 2, 3, 5, 8, 13, 24]:
            for deeds in ("a", "bd", "acxz"):
                world = chance_world(chance, deeds, size)
                for _ in range(8):
                    row = chance_row(chance, deeds, 12)
                    expected = [slow_led(world, s, row) for s in range(size)]
                    self.assertEqual([led(world, s, row) for s in range(size)], expected)
                    self.assertEqual(move_of(world, row), tuple(expected))
                    self.assertIs(type(move_of(world, row)), tuple)
                    self.assertEqual([led(world, s, flipped(row)) for s in expected], list(range(size)))

    def test_errors(self):
        for thing in wrong_standings(3):
            with self.assertRaises(NoStanding):
                led(W, thing, "a")
            with self.assertRaises(NoStanding):
                led(W, thing, None)
        for thing in WRONG_ROWS:
            for call in [lambda: led(W, 0, thing), lambda: move_of(W, thing), lambda: order(W, thing)]:
                with self.assertRaises(NoRow):
                    call()


class OrderTest(unittest.TestCase):
    def test_plain(self):
        self.assertEqual([order(W, row) for row in ("", "a", "A", "b", "ab", "aa", "abAB", "aA")], [1, 3, 3, 2, 2, 3, 3, 1])
        self.assertEqual(order(turning(24), "a" * 10), 12)
        self.assertEqual(order(World("a", {"a": (0,)}), "a" * 200), 1)

    def test_great(self):
        move = []
        for size in (2, 3, 5, 7):
            move.extend([len(move) + (s + 1) % size for s in range(size)])
        self.assertEqual(order(World("a", {"a": tuple(move)}), "a"), 210)
        self.assertEqual(order(World("a", {"a": tuple(move)}), "aaaaaa"), 35)

    def test_by_chance(self):
        chance = random.Random(92)
        for size in range(1, 12):
            world = chance_world(chance, "ab", size)
            row = chance_row(chance, "ab", 5)
            at = move_of(world, row)
            times = 1
            while at != tuple(range(size)):
                at = tuple([slow_led(world, s, row) for s in at])
                times += 1
            self.assertEqual(order(world, row), times)


class BesideTest(unittest.TestCase):
    def test_plain(self):
        world = beside(turning(2), turning(3))
        self.assertIs(type(world), World)
        self.assertEqual((world.deeds, world.size), ("a", 6))
        self.assertEqual(world.moves, {"a": (4, 5, 3, 1, 2, 0)})
        self.assertEqual(beside(turning(3), turning(2)).moves, {"a": (3, 2, 5, 4, 1, 0)})

    def test_by_chance(self):
        chance = random.Random(93)
        for size, second in [(1, 1), (1, 5), (4, 1), (3, 4), (5, 6), (24, 24)]:
            one, other = chance_world(chance, "bd", size), chance_world(chance, "bd", second)
            world = beside(one, other)
            self.assertEqual(world.size, size * second)
            for row in ("", "b", "D", "bdBBd"):
                pairs = [led(one, s, row) * second + led(other, t, row) for s in range(size) for t in range(second)]
                self.assertEqual(move_of(world, row), tuple(pairs))

    def test_errors(self):
        large = beside(beside(turning(10), turning(10)), turning(20))
        self.assertEqual(large.size, 2000)
        self.assertEqual(beside(large, turning(1)).size, 2000)
        self.assertEqual(beside(turning(1), large).size, 2000)
        for one, other in [(large, turning(2)), (turning(2), large), (large, large)]:
            self.assertTooLarge(one, other)
        for one, other in [(W, turning(2)), (turning(2), W), (large, beside(W, W))]:
            with self.assertRaises(OtherDeeds):
                beside(one, other)

    def assertTooLarge(self, one, other):
        with self.assertRaises(TooLarge) as caught:
            beside(one, other)
        self.assertEqual(caught.exception.most, 2000)

    def test_just_above(self):
        # 2001 is 3 * 23 * 29, and 29 alone is too much for a world that is constructed; 2002 can be had.
        self.assertEqual(beside(beside(turning(9), turning(13)), turning(17)).size, 1989)
        self.assertTooLarge(beside(turning(13), turning(14)), turning(11))
        self.assertTooLarge(beside(turning(7), turning(11)), beside(turning(13), turning(2)))

    def test_large_ones_everywhere(self):
        one = beside(turning(8), turning(9))
        program = Program("a", {}, (("loop", (("do", "aa"),)),))
        self.assertEqual(one.size, 72)
        self.assertEqual(led(one, 71, "a"), 0)
        self.assertEqual(len(move_of(one, "a")), 72)
        self.assertEqual(order(one, "a"), 72)
        self.assertEqual(beside(one, turning(5)).size, 360)
        self.assertEqual(one, beside(turning(8), turning(9)))
        self.assertNotEqual(one, beside(turning(9), turning(8)))
        self.assertEqual(len(reached(one, program, 71)), 36)
        self.assertEqual(len(cover(one, program, 71)), 36 * 3 + 1)
        self.assertIs(is_cover(one, program, 71, cover(one, program, 71)), True)
        plan = way(one, program, 71, led(one, 71, "a" * 40))
        self.assertEqual(ended(one, program, plan, 71), led(one, 71, "a" * 40))
        with self.assertRaises(NoStanding):
            led(one, 72, "a")
