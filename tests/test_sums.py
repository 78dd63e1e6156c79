"""Points 14.1 and 14.2: worlds in which deeds change places."""

import copy
import random
import unittest

from runsback.covers import reached
from runsback.errors import NoDeeds, NoNumber, NoRow, NoWeights, TooMany
from runsback.programs import Program
from runsback.rings import sure, terms
from runsback.rows import net
from runsback.sums import is_sum_denial, is_sum_paper, sum_denial, sum_of, sum_paper, sum_world, sure_sums
from runsback.webs import basis
from runsback.worlds import World, led, move_of
from tests.samples import chance_programs, chance_row, chance_rows, nets_up_to, odd_integers, odd_strings, odd_things
from tests.test_rings import A, B, DEEP, FOUR, P, THREE, loop_of, of

WRONG_ROWS = odd_things() + odd_integers() + odd_strings() + ["c", "C", "abc"]
GREAT = 10 ** 59
TWO = of(("either", ((loop_of("aab", "bbb"),), (("loop", (A,)), B))))


def slow_sum(deeds, row):
    return tuple([sum([1 if x == deed else -1 if x == deed.upper() else 0 for x in row]) for deed in deeds])


def slow_bases(deeds, term):
    return [slow_sum(deeds, row) for web in term[1] for row in basis(web)]


def slow_left(deeds, term, row):
    whole = slow_sum(deeds, row)
    for one in term[0]:
        whole = tuple([x - y for x, y in zip(whole, slow_sum(deeds, one))])
    return whole


def all_weights(many, m):
    """All tuples of so many weights below m."""
    found = [()]
    for _ in range(many):
        found = [one + (weight,) for one in found for weight in range(m)]
    return found


class SumOfTest(unittest.TestCase):
    def test_plain(self):
        self.assertEqual(sum_of("ab", "abAAb"), (-1, 2))
        self.assertEqual(sum_of("ab", ""), (0, 0))
        self.assertEqual(sum_of("ab", "aA"), (0, 0))
        self.assertEqual(sum_of("abcd", "dDdcA"), (-1, 0, 1, 1))
        self.assertEqual(sum_of("acz", "zZZZca"), (1, 1, -2))
        self.assertEqual(sum_of("b", "B" * 200), (-200,))
        self.assertIs(type(sum_of("a", "")), tuple)

    def test_by_chance(self):
        chance = random.Random(181)
        for _ in range(300):
            deeds = chance.choice(["a", "bx", "abc", "wxyz"])
            row = chance_row(chance, deeds, 60)
            self.assertEqual(sum_of(deeds, row), slow_sum(deeds, row))
            self.assertEqual(sum_of(deeds, row), sum_of(deeds, net(row)))

    def test_errors(self):
        for deeds in ["", "ba", "aa", "abcde", "A", "aB"] + odd_strings() + odd_things() + odd_integers():
            for row in ("", "a", None):
                with self.assertRaises(NoDeeds):
                    sum_of(deeds, row)
        for row in WRONG_ROWS:
            with self.assertRaises(NoRow):
                sum_of("ab", row)


class PaperTest(unittest.TestCase):
    def check(self, program, row):
        """Check that just one of both is there and right, and tell whether it is the paper."""
        paper, denial = sum_paper(program, row), sum_denial(program, row)
        several = terms(program)
        deeds = program.deeds
        self.assertIs(sure_sums(program, row), paper is not None)
        self.assertEqual(paper is None, denial is not None)
        if paper is None:
            self.assertIs(type(denial), list)
            self.assertEqual(len(denial), len(several))
            for term, pair in zip(several, denial):
                self.assertIs(type(pair), tuple)
                m, weights = pair
                self.assertEqual((type(m), type(weights), len(weights)), (int, tuple, len(deeds)))
                self.assertTrue(m >= 2 and all([type(weight) is int and 0 <= weight < m for weight in weights]))
                for vector in slow_bases(deeds, term):
                    self.assertEqual(sum([x * w for x, w in zip(vector, weights)]) % m, 0)
                self.assertNotEqual(sum([x * w for x, w in zip(slow_left(deeds, term, row), weights)]) % m, 0)
            self.assertIs(is_sum_denial(program, row, denial), True)
            return False
        self.assertIs(type(paper), tuple)
        number, times = paper
        self.assertEqual((type(number), type(times)), (int, tuple))
        vectors = slow_bases(deeds, several[number])
        self.assertEqual(len(times), len(vectors))
        self.assertTrue(all([type(many) is int for many in times]))
        whole = tuple([sum([many * vector[at] for many, vector in zip(times, vectors)]) for at in range(len(deeds))])
        self.assertEqual(whole, slow_left(deeds, several[number], row))
        self.assertIs(is_sum_paper(program, row, paper), True)
        return True

    def test_plain(self):
        self.assertEqual(sum_paper(P, "BAB"), (0, (-1,)))
        self.assertIsNone(sum_denial(P, "BAB"))
        self.assertIsNone(sum_paper(P, "A"))
        for program, row, expected in [(P, "B", True), (P, "ba" * 3 + "B", True), (P, "b", False), (P, "", False), (of(), "", True),
                                       (of(), "abAB", True), (of(), "a", False), (of(("do", "ab")), "ba", True),
                                       (of(loop_of("aa")), "a" * 7, False), (of(loop_of("aa")), "A" * 8, True),
                                       (of(loop_of("aab", "abb")), "aba", True), (of(loop_of("aab", "abb")), "a", False),
                                       (of(loop_of("aab", "abb")), "aaa", True), (of(loop_of("aabb")), "ab", False),
                                       (of(("loop", (A,)), ("loop", (B,))), "bABAbaB", True)]:
            self.assertIs(self.check(program, row), expected)

    def test_more_than_what_is_sure(self):
        program = of(("loop", (A,)), ("loop", (B,)))
        self.assertIs(sure(program, "ba"), False)
        self.assertIs(self.check(program, "ba"), True)

    def test_any_depth(self):
        self.check(DEEP_PROGRAM, "b" * 6)
        for row in nets_up_to("ab", 3) + ["bbbbbb", "bbbbbbA"]:
            self.assertIs(self.check(DEEP_PROGRAM, row), row.count("b") - row.count("B") == 6)
        program = of(("loop", (("do", "aa"),)), A, ("loop", (("do", "aaa"),)), ("loop", (("do", "bb"),)), ("loop", (("do", "abbb"),)))
        for row in nets_up_to("ab", 3):
            self.assertIs(self.check(program, row), True)
        program = of(*[("loop", (("do", "a" * 5), ("do", "a" * (number - 5)))) for number in (6, 10, 15)])
        self.assertIs(self.check(program, "a"), True)
        program = of(*[("loop", (("do", "a" * number),)) for number in (6, 10, 12)])
        self.assertIs(self.check(program, "aaa"), False)
        self.assertIs(self.check(program, "aaaa"), True)

    def test_the_term_counts(self):
        for row in nets_up_to("ab", 4):
            self.check(TWO, row)
        self.assertEqual(sum_paper(TWO, "b"), (1, (0,)))
        self.assertEqual(sum_paper(TWO, "aab")[0], 0)
        self.assertEqual(len(sum_denial(of(FOUR, FOUR), "A")), 16)

    def test_by_chance(self):
        chance = random.Random(182)
        found = {True: 0, False: 0}
        for program in chance_programs(183, 150):
            for row in nets_up_to("ab", 1) + [chance_row(chance, "ab", 6) for _ in range(3)]:
                try:
                    found[self.check(program, row)] += 1
                except TooMany:
                    break
        self.assertTrue(min(found.values()) > 100)

    def test_by_chance_several_deeds(self):
        chance = random.Random(184)
        found = {True: 0, False: 0}
        for _ in range(300):
            deeds = chance.choice(["a", "abc", "abcd"])
            loops = [loop_of(*chance_rows(chance, deeds, chance.randint(1, 4), 6)) for _ in range(chance.randint(0, 3))]
            program = of(("do", chance_row(chance, deeds, 3)), *loops, deeds=deeds)
            for _ in range(3):
                found[self.check(program, chance_row(chance, deeds, chance.choice([2, 6, 200])))] += 1
        self.assertTrue(min(found.values()) > 100)

    def test_worlds_in_which_deeds_change_places(self):
        chance = random.Random(185)
        some = 0
        for program in [P, TWO, of(loop_of("aab", "abb")), of(loop_of("aa"), B, loop_of("bbb")), of(FOUR, FOUR)]:
            for row in nets_up_to("ab", 3):
                worlds = [sum_world("ab", m, weights) for m in (2, 3, 4) for weights in chance.sample(all_weights(2, m), 3)]
                if sure_sums(program, row):
                    for world in worlds:
                        some += 1
                        self.assertTrue(all([led(world, s, row) in reached(world, program, s) for s in range(world.size)]))
                else:
                    # Where there is but one term, its weights make a world in which the program never does the row.
                    for m, weights in sum_denial(program, row)[:1] if len(terms(program)) == 1 else []:
                        world = sum_world("ab", m, weights)
                        self.assertFalse(led(world, 0, row) in reached(world, program, 0))
        self.assertTrue(some > 300)

    def test_new_each_time(self):
        sum_denial(P, "A").clear()
        self.assertEqual(len(sum_denial(P, "A")), 1)

    def test_errors(self):
        many = of(FOUR, FOUR, FOUR, DEEP)
        calls = [sure_sums, sum_paper, sum_denial, lambda program, row: is_sum_paper(program, row, None),
                 lambda program, row: is_sum_denial(program, row, [])]
        for call in calls:
            for thing in WRONG_ROWS:
                for program in (P, many):
                    with self.assertRaises(NoRow):
                        call(program, thing)
            half = (FOUR, FOUR)
            for program in [many, of(FOUR, FOUR, FOUR), of(("either", (half, half, ())))]:
                with self.assertRaises(TooMany) as caught:
                    call(program, "a")
                self.assertEqual(caught.exception.most, 32)
            self.assertIn(call(of(("either", (half, half))), "A") is None, (True, False))
        self.assertEqual(len(sum_denial(of(("either", ((FOUR, FOUR), (FOUR, FOUR)))), "A")), 32)


DEEP_PROGRAM = of(DEEP, DEEP)


class IsSumPaperTest(unittest.TestCase):
    def test_others_that_are_right(self):
        program = of(loop_of("a", "b"), loop_of("a", "ab"))
        self.assertEqual([basis(web) for web in terms(program)[0][1]], [["a", "b"], ["a", "b"]])
        for times in [(1, 1, 0, 0), (0, 0, 1, 1), (5, -3, -4, 4), (GREAT, 1 - GREAT, 1 - GREAT, GREAT)]:
            self.assertIs(is_sum_paper(program, "ba", (0, times)), True)
        for times in [(1, 0, 0, 0), (1, 1, 1, 0), (GREAT, 1 - GREAT, 1 - GREAT, GREAT - 1), (1, 1, 0, 1)]:
            self.assertIs(is_sum_paper(program, "ba", (0, times)), False)
        self.assertIs(is_sum_paper(of(("either", ((A,), (A,)))), "a", (1, ())), True)
        self.assertIs(is_sum_paper(of(), "abAB", (0, ())), True)

    def test_spoiled(self):
        for thing in [(1, (-1,)), (-1, (-1,)), (0, ()), (0, (-1, 0)), (0, (1,)), (0, [-1]), [0, (-1,)], (0, (-1,), 0), (0,),
                      (False, (-1,)), (0, -1), (0, ("-1",)), (0, (None,)), ("0", (-1,)), (0, {0: -1}), {0: (-1,)}, (0, (-1, ()))]:
            self.assertIs(is_sum_paper(P, "BAB", thing), False)
        self.assertIs(is_sum_paper(P, "BAB", (0, (-1,))), True)
        self.assertIs(is_sum_paper(P, "aba", (0, (True,))), False)
        self.assertIs(is_sum_paper(P, "B", (0, (False,))), False)
        self.assertIs(is_sum_paper(P, "B", (0, (0,))), True)
        self.assertIs(is_sum_paper(TWO, "b", (1, (0,))), True)
        self.assertIs(is_sum_paper(TWO, "b", (True, (0,))), False)
        self.assertIs(is_sum_paper(TWO, "b", (2, (0,))), False)
        self.assertIs(is_sum_paper(TWO, "b", (0, (0,))), False)
        self.assertIs(is_sum_paper(TWO, "b", (0, (0, 0))), False)

    def test_other_things(self):
        for thing in odd_things() + odd_integers() + odd_strings():
            self.assertIs(is_sum_paper(P, "BAB", thing), False)
            self.assertIs(is_sum_paper(P, "BAB", (thing, (-1,))), type(thing) is int and thing == 0)
            self.assertIs(is_sum_paper(P, "BAB", (0, thing)), False)
            self.assertIs(is_sum_paper(P, "BAB", (0, (thing,))), type(thing) is int and thing == -1)


class IsSumDenialTest(unittest.TestCase):
    def test_others_that_are_right(self):
        for pair in [(3, (1, 2)), (3, (2, 1)), (5, (1, 4)), (GREAT + 1, (1, GREAT)), (6, (2, 4))]:
            self.assertIs(is_sum_denial(P, "b", [pair]), True)
        for pair in [(2, (1, 1)), (3, (1, 1)), (3, (0, 0)), (4, (2, 2)), (GREAT, (1, GREAT - 2))]:
            self.assertIs(is_sum_denial(P, "b", [pair]), False)
        self.assertIs(is_sum_denial(P, "B", [(3, (1, 2))]), False)

    def test_spoiled(self):
        pair, other = (3, (1, 2)), (2, (1, 0))
        program = of(("either", ((loop_of("ab"),), (loop_of("b"),))))
        self.assertIs(is_sum_denial(program, "a", [pair, other]), True)
        for thing in [[other, pair], [pair], [other], [], [pair, other, other], (pair, other), [pair, None], [list(pair), other],
                      [pair, (2, [1, 0])], [pair, (2, (1,))], [pair, (2, (1, 0, 0))], [pair, (2, (1, 0), 0)], [pair, (2,)],
                      [pair, (2, (1, 2))], [pair, (2, (1, -2))], [pair, (2, (-1, 0))], [pair, (2, (True, 0))], [pair, (2, (1, False))],
                      [pair, (True, (1, 0))], [pair, (1, (0, 0))], [pair, (0, (0, 0))], [pair, (-2, (-1, 0))], [pair, ("2", (1, 0))],
                      [pair, (2, "10")], [pair, (2, (1, None))], [pair, (2, {0: 1, 1: 0})], {0: pair, 1: other}, [pair, 2]]:
            self.assertIs(is_sum_denial(program, "a", thing), False)

    def test_one_term_less_or_more(self):
        for program, row in [(of(FOUR, FOUR), "A"), (TWO, "a"), (P, "b")]:
            found = sum_denial(program, row)
            self.assertIs(is_sum_denial(program, row, found), True)
            self.assertIs(is_sum_denial(program, row, found[:-1]), False)
            self.assertIs(is_sum_denial(program, row, found + found[:1]), False)
            self.assertIs(is_sum_denial(program, row, tuple(found)), False)

    def test_other_things(self):
        for thing in odd_things() + odd_integers() + odd_strings():
            self.assertIs(is_sum_denial(P, "b", thing), False)
            self.assertIs(is_sum_denial(P, "b", [thing]), False)
            self.assertIs(is_sum_denial(P, "b", [(thing, (1, 2))]), type(thing) is int and thing > 2 and thing % 3 == 0)
            self.assertIs(is_sum_denial(P, "b", [(3, thing)]), thing == (1, 2))
            self.assertIs(is_sum_denial(P, "b", [(3, (1, thing))]), False)

    def test_nothing_is_changed(self):
        thing = [(3, (1, 2))]
        before = copy.deepcopy(thing)
        is_sum_denial(P, "b", thing)
        self.assertEqual(thing, before)


class SumWorldTest(unittest.TestCase):
    def test_plain(self):
        self.assertEqual(sum_world("ab", 3, (1, 2)), World("ab", {"a": (1, 2, 0), "b": (2, 0, 1)}))
        self.assertEqual(sum_world("a", 2, (0,)), World("a", {"a": (0, 1)}))
        self.assertEqual(sum_world("abcd", 2, (0, 1, 1, 0)).moves["c"], (1, 0))
        self.assertEqual(sum_world("x", 24, (23,)), World("x", {"x": (23,) + tuple(range(23))}))

    def test_bounds(self):
        world = sum_world("ab", 1000, (999, 0))
        self.assertEqual((type(world), world.size, world.deeds), (World, 1000, "ab"))
        self.assertEqual(world.moves, {"a": (999,) + tuple(range(999)), "b": tuple(range(1000))})
        for m in [1, 1001, 0, -1, -2, GREAT, True, False, None, "2", (2,), [2], "a"] + odd_things() + odd_strings():
            for weights in [(0, 0), None]:
                with self.assertRaises(NoNumber):
                    sum_world("ab", m, weights)

    def test_weights(self):
        for weights in [(0,), (0, 0, 0), (), (0, 5), (5, 0), (-1, 0), (0, -1), (0, 6), [0, 0], "00", (0, True), (False, 0), (0, None),
                        ((0, 0),), {0: 0, 1: 0}, 0, (0, "0"), GREAT, (0, GREAT)] + odd_things() + odd_strings():
            if weights != (1, 2) and weights != (1, 4):
                with self.assertRaises(NoWeights):
                    sum_world("ab", 5, weights)
        self.assertEqual(sum_world("ab", 5, (4, 0)).size, 5)

    def test_deeds(self):
        for deeds in ["", "ba", "aa", "abcde", "A", "aB"] + odd_strings() + odd_things() + odd_integers():
            with self.assertRaises(NoDeeds):
                sum_world(deeds, 1, None)

    def test_deeds_change_places(self):
        chance = random.Random(186)
        for _ in range(40):
            deeds = chance.choice(["ab", "abc", "wxyz"])
            m = chance.choice([2, 3, 7, 30])
            weights = tuple([chance.randrange(m) for _ in deeds])
            world = sum_world(deeds, m, weights)
            for d in deeds:
                self.assertEqual(world.moves[d], tuple([(s + weights[deeds.index(d)]) % m for s in range(m)]))
                for e in deeds:
                    self.assertEqual(move_of(world, d + e), move_of(world, e + d))

    def test_a_program_that_is_nothing_but_its_term(self):
        self.assertEqual(sum_paper(Program("z", {}, ()), "zZ"), (0, ()))
        self.assertEqual(sum_denial(Program("z", {}, ()), "z"), [(2, (1,))])
