"""Points 15.1 and 15.2: games."""

import copy
import random
import unittest

from runsback.errors import NoGoals, NoStanding, OtherDeeds
from runsback.flows import flow
from runsback.games import answer, is_answer, is_manner, manner, wins
from runsback.programs import Program
from runsback.worlds import World, beside
from tests.samples import chance_programs, chance_world, odd_integers, odd_strings, odd_things, slow_led
from tests.test_rings import of
from tests.test_worlds import wrong_standings

A, B = ("do", "a"), ("do", "b")
TWO = World("a", {"a": (1, 0)})
W = World("ab", {"a": (1, 2, 0), "b": (0, 2, 1)})
E14 = Program("a", {}, (("other", ((A,), ())), ("either", ((A,), ()))))
GREAT = 10 ** 59


def others_of(program):
    """The other hand's places, found by laying the flow once more, place by place."""
    found = []
    many = [2]

    def place():
        many[0] += 1
        return many[0] - 1

    def block(items, undone):
        for _ in range(len(items) - 1):
            place()
        for word, inner in reversed(items) if undone else items:
            if word == "do":
                for _ in range(len(inner) - 1):
                    place()
            elif word == "either":
                for each in inner:
                    block(each, undone)
            elif word == "other":
                found.append(place())
                for each in inner:
                    place()
                    block(each, undone)
            elif word == "loop":
                place()
                block(inner, undone)
            else:
                block(program.parts[inner] if word == "part" else inner, undone != (word == "undo"))

    block(program.body, False)
    assert many[0] == flow(program)[0]
    return found


def slow_won(world, program, goals):
    """The set of the pairs from which the own hand wins, by going over all of them until nothing is new."""
    many, arrows = flow(program)
    others = others_of(program)
    won = {(1, goal) for goal in goals}
    while True:
        fresh = set(won)
        for place in range(many):
            for standing in range(world.size):
                behind = [(q, slow_led(world, standing, x)) for p, x, q in arrows if p == place]
                if behind and (all if place in others else any)([pair in won for pair in behind]):
                    fresh.add((place, standing))
        if fresh == won:
            return won
        won = fresh


def right_manner(world, program, standing, goals, thing):
    """Whether a thing of the right form is a manner, told word by word."""
    many, arrows = flow(program)
    others = others_of(program)
    if (0, standing) not in thing:
        return False
    for (place, at), (arrow, rank) in thing.items():
        if place == 1 and (at not in goals or arrow is not None):
            return False
        if place == 1:
            continue
        if (place in others) != (arrow is None):
            return False
        chosen = [x for x in arrows if x[0] == place] if place in others else [arrows[arrow]]
        for p, x, q in chosen:
            pair = (q, slow_led(world, at, x))
            if p != place or pair not in thing or thing[pair][1] >= rank:
                return False
    return True


def right_answer(world, program, standing, goals, thing):
    many, arrows = flow(program)
    others = others_of(program)
    if (0, standing) not in thing:
        return False
    for (place, at), arrow in thing.items():
        if (place in others) != (arrow is not None) or (place == 1 and at in goals):
            return False
        chosen = [arrows[arrow]] if place in others else [x for x in arrows if x[0] == place]
        for p, x, q in chosen:
            if p != place or (q, slow_led(world, at, x)) not in thing:
                return False
    return True


class GamesTest(unittest.TestCase):
    def check(self, world, program, standing, goals):
        """Check that just one of both is there and right, and tell whether the own hand wins."""
        won = wins(world, program, standing, goals)
        self.assertIs(won, (0, standing) in slow_won(world, program, goals))
        found, other = manner(world, program, standing, goals), answer(world, program, standing, goals)
        self.assertEqual((found is not None, other is not None), (won, not won))
        if won:
            self.assertIs(type(found), dict)
            for pair, told in found.items():
                self.assertEqual((type(pair), type(told), len(told), type(told[1])), (tuple, tuple, 2, int))
                self.assertTrue(told[1] >= 0)
            self.assertTrue(right_manner(world, program, standing, goals, found))
            self.assertIs(is_manner(world, program, standing, goals, found), True)
        else:
            self.assertIs(type(other), dict)
            self.assertTrue(right_answer(world, program, standing, goals, other))
            self.assertIs(is_answer(world, program, standing, goals, other), True)
        self.assertIs(is_manner(world, program, standing, goals, other), False)
        self.assertIs(is_answer(world, program, standing, goals, found), False)
        return won

    def test_plain(self):
        self.assertIs(wins(TWO, E14, 0, (0,)), True)
        self.assertIs(self.check(TWO, E14, 0, (0,)), True)
        turned = Program("a", {}, (("either", ((A,), ())), ("other", ((A,), ()))))
        for standing in (0, 1):
            self.assertIs(self.check(TWO, E14, standing, (1,)), True)
            self.assertIs(self.check(TWO, turned, standing, (0,)), False)
            self.assertIs(self.check(TWO, turned, standing, (0, 1)), True)
            self.assertIs(self.check(TWO, turned, standing, ()), False)

    def test_goals(self):
        for program in [of(), of(A), of(("loop", (A,))), of(("other", ((A,), (B,)))), of(("either", ((A,), (("other", ((B,), ())),))))]:
            for standing in range(3):
                self.assertIs(self.check(W, program, standing, ()), False)
                self.assertIs(self.check(W, program, standing, (0, 1, 2)), True)
                for goals in [(0,), (1,), (2,), (0, 1), (0, 2), (1, 2)]:
                    self.check(W, program, standing, goals)
        self.assertIs(self.check(W, of(), 1, (1,)), True)
        self.assertIs(self.check(W, of(), 1, (0, 2)), False)

    def test_others_in_eithers(self):
        program = of(("either", ((("other", ((A,), ())),), (("other", ((A, A), (B,))), ("either", ((), (B,)))), (B,))))
        for standing in range(3):
            for goals in [(0,), (1,), (2,), (0, 1), (0, 2), (1, 2)]:
                self.check(W, program, standing, goals)
        self.assertIs(self.check(W, program, 1, (1, 2)), True)
        self.assertIs(self.check(W, program, 2, (0, 2)), True)

    def test_games_without_end(self):
        # Whoever chooses whether to go on decides: the own hand must leave the loop, the other one need not.
        own = of(("loop", (A,)))
        self.assertIs(self.check(W, own, 0, (2,)), True)
        inner = of(("loop", (("loop", (("other", ((A,), ())),)),)))
        self.assertIs(self.check(W, inner, 0, (0,)), True)
        self.assertIs(self.check(W, inner, 1, (0,)), False)
        both = of(("loop", (("other", ((A,), (("undo", (A,)),))),)))
        self.assertIs(self.check(W, both, 0, (1,)), False)
        self.assertIs(self.check(W, both, 0, (1, 2)), True)
        two = of(("loop", (("other", ((A,), (B,))),)), deeds="ab")
        self.assertIs(self.check(World("ab", {"a": (1, 0), "b": (1, 0)}), two, 0, (1,)), True)
        self.assertIs(self.check(World("ab", {"a": (1, 0), "b": (0, 1)}), two, 0, (1,)), False)

    def test_others_in_undos_and_parts(self):
        parts = {"one": (("other", ((A,), (B, A))), ("either", ((), (B,))))}
        for program in [of(("undo", (("part", "one"),)), parts=parts), of(("undo", (("undo", (("part", "one"),)),)), parts=parts),
                        of(("part", "one"), ("undo", (("part", "one"),)), parts=parts),
                        of(("undo", (("loop", (("part", "one"),)),)), ("either", ((A,), ())), parts=parts),
                        of(("undo", (("undo", (("undo", (("other", ((A,), (B,))),)),)),)))]:
            self.assertTrue(others_of(program))
            for standing in range(3):
                for goals in [(0,), (1,), (2,), (0, 1), (0, 2), (1, 2)]:
                    self.check(W, program, standing, goals)

    def test_an_other_in_an_undo_stays_the_other_hands(self):
        program = of(("undo", (("other", ((A,), ())),)))
        self.assertIs(self.check(W, program, 0, (2,)), False)
        self.assertIs(self.check(W, program, 0, (0, 2)), True)
        program = of(("undo", (("undo", (("other", ((A,), ())),)),)))
        self.assertIs(self.check(W, program, 0, (0, 1)), True)
        self.assertIs(self.check(W, program, 0, (1,)), False)
        program = of(("undo", (("either", ((A,), ())),)))
        self.assertIs(self.check(W, program, 0, (2,)), True)

    def test_the_order_in_undos(self):
        # Undone, the other hand chooses ahead of the own one, and so the own one can make up for it.
        block = (("either", ((A,), ())), ("other", ((A,), ())))
        world = World("ab", {"a": (1, 0), "b": (0, 1)})
        self.assertIs(self.check(world, of(*block), 0, (0,)), False)
        self.assertIs(self.check(world, of(("undo", block)), 0, (0,)), True)
        self.assertIs(self.check(world, of(("undo", (("undo", block),))), 0, (0,)), False)

    def test_by_chance(self):
        chance = random.Random(191)
        found = {True: 0, False: 0}
        with_others = 0
        for program in chance_programs(192, 150):
            if not others_of(program) and chance.random() < 0.6:
                continue
            world = chance_world(chance, "ab", chance.randint(1, 5))
            goals = tuple(sorted(chance.sample(range(world.size), chance.randint(0, world.size))))
            with_others += len(others_of(program)) > 0
            found[self.check(world, program, chance.randrange(world.size), goals)] += 1
        self.assertTrue(min(found.values()) > 15 and with_others > 30)

    def test_worlds_that_were_returned(self):
        program = of(("loop", (("either", ((A,), (B,))), ("other", ((A,), ())))), ("other", ((B,), (A, A))))
        world = beside(W, World("ab", {"a": tuple([(s + 1) % 11 for s in range(11)]), "b": tuple(range(11))}))
        for goals in [tuple(range(0, 33, 2)), tuple(range(20)), (0, 32), tuple(range(33))]:
            self.check(world, program, 32, goals)

    def test_new_each_time(self):
        manner(TWO, E14, 0, (0,)).clear()
        answer(TWO, E14, 0, ()).clear()
        self.assertTrue(manner(TWO, E14, 0, (0,)) and answer(TWO, E14, 0, ()))

    def test_errors(self):
        calls = [wins, manner, answer, lambda *told: is_manner(*told, {}), lambda *told: is_answer(*told, None)]
        program = of(("other", ((A,), (B,))))
        for call in calls:
            with self.assertRaises(OtherDeeds):
                call(TWO, program, None, None)
            for thing in wrong_standings(3):
                with self.assertRaises(NoStanding):
                    call(W, program, thing, None)
            for thing in odd_things() + odd_integers() + odd_strings() + [
                    [0], [], "0", (1, 0), (0, 0), (0, 1, 1), (2, 1), (0, 3), (3,), (-1, 0), (False,), (0, True), (True, 2), (0, None),
                    ("0",), ((0,),), {0: 1}, {0}, range(2), (0, 1, 2, 3), (0, GREAT), (None,)]:
                if thing not in ((), (1, 2)):
                    with self.assertRaises(NoGoals):
                        call(W, program, 0, thing)


class PapersTest(unittest.TestCase):
    def setUp(self):
        self.program = of(("loop", (("other", ((A,), (B,))),)), ("either", ((A,), (B,), ())))
        self.arrows = flow(self.program)[1]

    def test_spoiled_manners(self):
        goals = (0, 1)
        for standing in range(3):
            found = manner(W, self.program, standing, goals)
            others = others_of(self.program)
            for pair, (arrow, rank) in found.items():
                for told in [arrow, rank, (arrow,), [arrow, rank], (arrow, rank, 0), (arrow, None), (arrow, -1), (arrow, True), (arrow, "0"),
                             None, (False, rank), (True, rank), ("0", rank), (len(self.arrows), rank), (-1, rank), ((arrow,), rank)]:
                    self.assertIs(is_manner(W, self.program, standing, goals, {**found, pair: told}), False)
                if arrow is None:
                    wrong = range(len(self.arrows))
                else:
                    wrong = [None] + [at for at in range(len(self.arrows)) if self.arrows[at][0] != pair[0]]
                for number in wrong:
                    self.assertIs(is_manner(W, self.program, standing, goals, {**found, pair: (number, rank)}), False)
                spoiled = {key: found[key] for key in found if key != pair}
                self.assertIs(is_manner(W, self.program, standing, goals, spoiled),
                              right_manner(W, self.program, standing, goals, spoiled))
                if pair[0] != 1:
                    chosen = [x for x in self.arrows if x[0] == pair[0]] if pair[0] in others else [self.arrows[arrow]]
                    high = max([found[(q, slow_led(W, pair[1], x))][1] for _, x, q in chosen])
                    self.assertIs(is_manner(W, self.program, standing, goals, {**found, pair: (arrow, high)}), False)
                    self.assertIs(is_manner(W, self.program, standing, goals, {**found, (1, 2): (None, 0)}), False)
            spoiled = {key: found[key] for key in found if key != (0, standing)}
            self.assertIs(is_manner(W, self.program, standing, goals, spoiled), False)

    def test_other_manners(self):
        found = manner(W, self.program, 0, (0, 1))
        larger = {pair: (arrow, rank * 7 + GREAT) for pair, (arrow, rank) in found.items()}
        self.assertIs(is_manner(W, self.program, 0, (0, 1), larger), True)
        turned = dict(list(found.items())[::-1])
        self.assertIs(is_manner(W, self.program, 0, (0, 1), turned), True)
        # More goals, and with them more keys than are needed.
        every = manner(W, self.program, 0, (0, 1, 2))
        self.assertIs(is_manner(W, self.program, 0, (0, 1, 2), {**every, (1, 2): (None, 0)}), True)
        program = of(("either", ((A,), (A,), ())))
        for number in (0, 1):
            self.assertIs(is_manner(W, program, 0, (1,), {(0, 0): (number, 9), (1, 1): (None, 8)}), True)
            self.assertIs(is_manner(W, program, 0, (1,), {(0, 0): (number, 9), (1, 1): (None, 9)}), False)
            self.assertIs(is_manner(W, program, 0, (1,), {(0, 0): (number, 9), (1, 1): (None, 8), (1, 0): (None, 3)}), False)
        self.assertIs(is_manner(W, program, 0, (1,), {(0, 0): (2, 9), (1, 1): (None, 8)}), False)
        self.assertIs(is_manner(W, program, 0, (1,), {(0, 0): (0, 9), (1, 1): (None, 8), (0, 1): (2, 10)}), True)
        self.assertIs(is_manner(W, program, 0, (1,), {(0, 0): (0, 9), (1, 1): (None, 8), (0, 1): (0, 10)}), False)

    def test_spoiled_answers(self):
        goals = (0,)
        for standing in range(3):
            program = of(("either", ((A,), (("loop", (("other", ((A,), (B,))),)),))), ("other", ((A,), (B, B), ())))
            arrows = flow(program)[1]
            found = answer(W, program, standing, goals)
            self.assertIs(is_answer(W, program, standing, goals, found), True)
            for pair, arrow in found.items():
                for told in [(arrow,), [arrow], False, True, "0", -1, len(arrows), (arrow, 0), GREAT]:
                    self.assertIs(is_answer(W, program, standing, goals, {**found, pair: told}), False)
                if arrow is None:
                    wrong = range(len(arrows))
                else:
                    wrong = [None] + [at for at in range(len(arrows)) if arrows[at][0] != pair[0]]
                for number in wrong:
                    self.assertIs(is_answer(W, program, standing, goals, {**found, pair: number}), False)
                spoiled = {key: found[key] for key in found if key != pair}
                self.assertIs(is_answer(W, program, standing, goals, spoiled),
                              right_answer(W, program, standing, goals, spoiled))
            self.assertIs(is_answer(W, program, standing, goals, {**found, (1, 0): None}), False)
            spoiled = {key: found[key] for key in found if key != (0, standing)}
            self.assertIs(is_answer(W, program, standing, goals, spoiled), False)

    def test_other_answers(self):
        program = of(("other", ((A,), (A,), ())))
        (place,), arrows = others_of(program), flow(program)[1]
        numbers = [at for at in range(len(arrows)) if arrows[at][0] == place]
        for number in numbers[:2]:
            goal = arrows[number][2]
            thing = {(0, 0): None, (place, 0): number, (goal, 0): None, (1, 1): None}
            self.assertIs(is_answer(W, program, 0, (0, 2), thing), True)
            self.assertIs(is_answer(W, program, 0, (0, 2), dict(list(thing.items())[::-1])), True)
            self.assertIs(is_answer(W, program, 0, (1,), thing), False)
            self.assertIs(is_answer(W, program, 1, (0, 2), thing), False)
            self.assertIs(is_answer(W, program, 0, (), {**thing, (1, 2): None, (1, 0): None}), True)
            self.assertIs(is_answer(W, program, 0, (0, 2), {**thing, (1, 2): None}), False)
            for key in thing:
                self.assertIs(is_answer(W, program, 0, (0, 2), {pair: thing[pair] for pair in thing if pair != key}), False)

    def test_wrong_keys(self):
        found, other = manner(TWO, E14, 0, (0,)), answer(TWO, E14, 0, ())
        keys = [0, "a", None, (), (0,), (0, 0, 0), (0, 2), (-1, 0), (0, -1), (flow(E14)[0], 0), (False, 0), (0, False), (True, 1),
                (1, True), ("0", 0), (0, "0"), (None, None), ((0, 0), 0), b"a", True, GREAT, (GREAT, 0), (0, (0,))]
        for key in keys:
            for thing in [(None, 0), None, 0, (0, 5)]:
                spoiled = {pair: found[pair] for pair in found if pair != key}
                self.assertIs(is_manner(TWO, E14, 0, (0,), {**spoiled, key: thing}), False)
                spoiled = {pair: other[pair] for pair in other if pair != key}
                self.assertIs(is_answer(TWO, E14, 0, (), {**spoiled, key: thing}), False)

    def test_other_things(self):
        found, other = manner(TWO, E14, 0, (0,)), answer(TWO, E14, 0, ())
        for thing in odd_things() + odd_integers() + odd_strings() + [list(found.items()), tuple(found), [found], (found,)]:
            self.assertIs(is_manner(TWO, E14, 0, (0,), thing), False)
            self.assertIs(is_answer(TWO, E14, 0, (), thing), False)
            for pair in found:
                self.assertIs(is_manner(TWO, E14, 0, (0,), {**found, pair: thing}), False)
                self.assertIs(is_manner(TWO, E14, 0, (0,), {**found, pair: (found[pair][0], thing)}),
                              type(thing) is int and right_manner(TWO, E14, 0, (0,), {**found, pair: (found[pair][0], thing)}) and thing >= 0)
            for pair in other:
                if not (thing is None and other[pair] is None) and not (type(thing) is int and other[pair] is not None):
                    self.assertIs(is_answer(TWO, E14, 0, (), {**other, pair: thing}), False)

    def test_nothing_is_changed(self):
        found, other = manner(TWO, E14, 0, (0,)), answer(TWO, E14, 0, ())
        before = copy.deepcopy((found, other))
        is_manner(TWO, E14, 0, (0,), found)
        is_answer(TWO, E14, 0, (), other)
        self.assertEqual((found, other), before)
