"""Point 18.1: stands."""

import random
import unittest

from runsback.covers import ended, reached
from runsback.errors import NoLetter, NoNumber, NoPlan, NoStanding, OtherDeeds, RunsError, TooLong
from runsback.plans import row_of
from runsback.stands import Stand
from runsback.worlds import World, beside
from tests.samples import chance_plan, chance_programs, chance_world, odd_integers, odd_strings, odd_things, slow_led
from tests.test_rings import P, of
from tests.test_worlds import wrong_standings

W = World("ab", {"a": (1, 2, 0), "b": (0, 2, 1)})
LONG = of(("loop", (("do", "a"),)), ("loop", (("do", "Ab"),)))


def long_plan(one, two):
    """A plan of the long program with so many letters and so often two."""
    return (((((),), one),) if one else (), ((((),), two),) if two else ())


class StandTest(unittest.TestCase):
    def assertStands(self, stand, at, row):
        self.assertEqual((stand.at, stand.row()), (at, row))

    def test_plain(self):
        stand = Stand(W, 0)
        self.assertStands(stand, 0, "")
        self.assertEqual(vars(stand)["at"], 0)
        self.assertIsNone(stand.go("a"))
        self.assertStands(stand, 1, "a")
        stand.go("b")
        stand.go("A")
        self.assertStands(stand, 1, "abA")
        self.assertIsNone(stand.back(2))
        self.assertStands(stand, 1, "a")
        self.assertIsNone(stand.run(P, (((((),), 2),), ())))
        self.assertStands(stand, slow_led(W, 0, "aababB"), "aababB")
        stand.back(6)
        self.assertStands(stand, 0, "")

    def test_letters_are_kept_as_they_were_gone(self):
        stand = Stand(W, 2)
        for letter in "aAbBBb":
            stand.go(letter)
        self.assertStands(stand, 2, "aAbBBb")

    def test_standings(self):
        for thing in wrong_standings(3):
            with self.assertRaises(NoStanding):
                Stand(W, thing)
        for standing in range(3):
            self.assertEqual(Stand(W, standing).at, standing)
        large = beside(chance_world(random.Random(1), "ab", 20), W)
        stand = Stand(large, 59)
        stand.go("B")
        self.assertEqual(stand.at, slow_led(large, 59, "B"))

    def test_by_chance(self):
        chance = random.Random(221)
        for _ in range(60):
            world = chance_world(chance, "abc", chance.randint(1, 9))
            start = chance.randrange(world.size)
            stand, row = Stand(world, start), ""
            for _ in range(40):
                if row and chance.random() < 0.4:
                    many = chance.randint(1, len(row))
                    stand.back(many)
                    row = row[:-many]
                else:
                    row += chance.choice("aAbBcC")
                    stand.go(row[-1])
                self.assertStands(stand, slow_led(world, start, row), row)

    def test_letters(self):
        stand = Stand(W, 0)
        stand.go("a")
        for thing in odd_things() + odd_integers() + odd_strings() + ["", "c", "C", "ab", "aA", "aa", ("a",), ["a"], "z"]:
            with self.assertRaises(NoLetter):
                stand.go(thing)
            self.assertStands(stand, 1, "a")

    def test_runs_by_chance(self):
        chance = random.Random(222)
        for program in chance_programs(223, 60):
            world = chance_world(chance, "ab", chance.randint(1, 9))
            plan = chance_plan(chance, program.parts, program.body)
            stand = Stand(world, 0)
            stand.run(program, plan)
            self.assertStands(stand, ended(world, program, plan, 0), row_of(program, plan))

    def test_long_runs(self):
        stand = Stand(W, 0)
        stand.go("b")
        stand.run(LONG, long_plan(5000, 0))
        self.assertStands(stand, slow_led(W, 0, "b" + "a" * 5000), "b" + "a" * 5000)
        stand.run(LONG, long_plan(2, 2499))
        self.assertEqual(len(stand.row()), 10001)
        for one, two in [(5001, 0), (1, 2500), (3, 2499), (10 ** 50, 0)]:
            at = stand.at
            with self.assertRaises(TooLong) as caught:
                stand.run(LONG, long_plan(one, two))
            self.assertEqual(caught.exception.most, 5000)
            self.assertEqual((stand.at, len(stand.row())), (at, 10001))
        stand.back(10001)
        self.assertStands(stand, 0, "")

    def test_runs_that_are_wrong(self):
        stand = Stand(W, 1)
        stand.go("b")
        for thing in odd_things() + odd_integers() + odd_strings() + [((),), ((), (), ()), (((((),), 0),), ()), (((((),), True),), ())]:
            if thing != ((), ()):
                with self.assertRaises(NoPlan):
                    stand.run(P, thing)
            with self.assertRaises(OtherDeeds):
                stand.run(of(deeds="abc"), thing)
            self.assertStands(stand, 2, "b")
        with self.assertRaises(OtherDeeds):
            stand.run(of(deeds="a"), ())

    def test_back(self):
        stand = Stand(W, 0)
        for thing in odd_things() + odd_integers() + odd_strings():
            with self.assertRaises(NoNumber):
                stand.back(thing)
        for letter in "abA":
            stand.go(letter)
        for thing in [0, -1, 4, 5, 10 ** 59, True, False, None, "1", (1,), [1], {}]:
            with self.assertRaises(NoNumber):
                stand.back(thing)
            self.assertStands(stand, slow_led(W, 0, "abA"), "abA")
        stand.back(3)
        self.assertStands(stand, 0, "")
        with self.assertRaises(NoNumber):
            stand.back(1)

    def test_reach(self):
        stand = Stand(W, 1)
        for program in (P, of(), of(("do", "a")), of(("either", ((("do", "a"),), ())))):
            self.assertEqual(stand.reach(program), reached(W, program, 1))
        stand.go("a")
        self.assertEqual(stand.reach(of(("do", "a"))), [0])
        with self.assertRaises(OtherDeeds):
            stand.reach(of(deeds="a"))
        self.assertStands(stand, 2, "a")

    def test_copy(self):
        stand = Stand(W, 0)
        for letter in "ab":
            stand.go(letter)
        other = stand.copy()
        self.assertIs(type(other), Stand)
        self.assertIsNot(other, stand)
        self.assertStands(other, 2, "ab")
        other.go("a")
        stand.back(2)
        self.assertStands(other, 0, "aba")
        self.assertStands(stand, 0, "")
        other.back(3)
        self.assertStands(other, 0, "")
        third = other.copy()
        third.run(P, ((), ()))
        self.assertStands(third, 0, "B")
        self.assertStands(other, 0, "")
        with self.assertRaises(NoNumber):
            other.back(1)


class TryingTest(unittest.TestCase):
    def setUp(self):
        self.stand = Stand(W, 0)
        for letter in "abA":
            self.stand.go(letter)
        self.before = (self.stand.at, "abA")

    def assertBefore(self):
        self.assertEqual((self.stand.at, self.stand.row()), self.before)
        other = self.stand.copy()
        other.back(3)
        self.assertEqual((other.at, other.row()), (0, ""))

    def test_plain(self):
        def action(stand):
            self.assertIs(stand, self.stand)
            stand.go("a")
            stand.run(P, (((((),), 2),), ()))
            return (stand.at, stand.row())

        self.assertEqual(self.stand.trying(action), (slow_led(W, 0, "abAaababB"), "abAaababB"))
        self.assertBefore()

    def test_what_is_returned(self):
        for thing in [None, 0, "a", [1], self.stand]:
            self.assertIs(self.stand.trying(lambda stand: thing), thing)
        self.assertBefore()

    def test_going_back_behind(self):
        def action(stand):
            stand.back(2)
            stand.go("b")
            stand.back(2)
            stand.go("B")
            return stand.row()

        self.assertEqual(self.stand.trying(action), "B")
        self.assertBefore()

    def test_errors(self):
        class Own(Exception):
            pass

        def action_with(error):
            def action(stand):
                stand.back(3)
                stand.go("b")
                raise error
            return action

        for error in (Own("a"), ValueError("b"), NoLetter(), KeyboardInterrupt(), RecursionError()):
            with self.assertRaises(type(error)) as caught:
                self.stand.trying(action_with(error))
            self.assertIs(caught.exception, error)
            self.assertBefore()
        with self.assertRaises(NoNumber):
            self.stand.trying(lambda stand: stand.back(4))
        self.assertBefore()
        with self.assertRaises(NoLetter):
            self.stand.trying(lambda stand: (stand.go("b"), stand.go("c")))
        self.assertBefore()

    def test_within_itself(self):
        def inner(stand):
            stand.back(2)
            stand.go("B")
            return stand.row()

        def outer(stand):
            stand.back(1)
            stand.go("b")
            first = stand.row()
            second = stand.trying(inner)
            self.assertEqual(stand.row(), first)
            with self.assertRaises(RunsError):
                stand.trying(lambda other: (inner(other), other.go("?")))
            self.assertEqual(stand.row(), first)
            stand.go("a")
            return (first, second, stand.row(), stand.trying(lambda other: other.trying(inner)))

        self.assertEqual(self.stand.trying(outer), ("abb", "aB", "abba", "abB"))
        self.assertBefore()

    def test_copies_go_on(self):
        def action(stand):
            stand.go("b")
            other = stand.copy()
            stand.back(4)
            return other

        other = self.stand.trying(action)
        self.assertBefore()
        self.assertEqual((other.at, other.row()), (slow_led(W, 0, "abAb"), "abAb"))
        other.back(4)
        self.assertBefore()

    def test_copy_of_one_that_tries(self):
        self.assertEqual(self.stand.copy().trying(lambda other: (other.back(3), other.row())[1]), "")
        self.assertBefore()
