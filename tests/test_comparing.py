"""Point 7.2: programs compared in every world."""

import copy
import unittest

from runsback.algebra import one_of
from runsback.comparing import beyond, is_leading, leading, same, within
from runsback.effects import effects, has
from runsback.errors import OtherDeeds, TooLarge
from runsback.programs import Program
from tests.samples import chain_and_choices, chance_programs, nets_up_to, odd_integers, odd_strings, odd_things

P = Program("ab", {}, (("loop", (("do", "ab"),)), ("do", "B")))
Q = Program("ab", {}, (("either", ((("do", "a"),), (("do", "B"),))),))
FUNCTIONS = (within, same, beyond, leading)


def of(*body, deeds="ab"):
    return Program(deeds, {}, body)


def loop_of(*rows):
    return ("loop", (("either", tuple([(("do", row),) for row in rows])),))


def right_leading(one, other, thing):
    """The point word by word, for a list of pairs of states."""
    first, second = effects(one), effects(other)
    if len(set(thing)) != len(thing) or (0, 0) not in thing:
        return False
    for s, t in thing:
        if s in first.ends and t not in second.ends:
            return False
        for letter, state in first.steps[s].items():
            if letter not in second.steps[t] or (state, second.steps[t][letter]) not in thing:
                return False
    return True


class WithinTest(unittest.TestCase):
    def test_examples(self):
        self.assertIs(within(Q, P), True)
        self.assertEqual(beyond(P, Q), "aba")
        self.assertIs(within(P, Q), False)
        self.assertIsNone(beyond(Q, P))

    def test_plain(self):
        for one, other, expected in [
                (of(), of(), None), (of(), of(("do", "a")), ""), (of(("do", "a")), of(), "a"),
                (of(("do", "aA")), of(), None), (of(loop_of("a")), of(loop_of("aa")), "a"),
                (of(loop_of("aa")), of(loop_of("a")), None), (of(loop_of("a")), of(loop_of("A")), "a"),
                (of(loop_of("a", "A")), of(loop_of("a"), loop_of("A")), None),
                (of(loop_of("a", "b", "A", "B")), of(loop_of("a", "b")), "A"),
                (of(loop_of("aa", "aaa")), of(loop_of("aa"), loop_of("aaa")), None),
                (of(loop_of("aab")), of(("either", ((), (("do", "aab"),)))), "aabaab")]:
            self.assertEqual(beyond(one, other), expected)
            self.assertIs(within(one, other), expected is None)

    def test_same(self):
        self.assertIs(same(P, P), True)
        self.assertIs(same(P, Q), False)
        self.assertIs(same(Q, P), False)
        self.assertIs(same(of(loop_of("a", "A")), of(loop_of("a"), loop_of("A"))), True)
        self.assertIs(same(of(loop_of("a", "A")), of(loop_of("aa", "A"))), True)
        self.assertIs(same(of(loop_of("a", "A")), of(loop_of("a"))), False)
        self.assertIs(same(of(("do", "abBA")), of()), True)
        self.assertIs(same(of(("other", ((("do", "a"),), ()))), of(("either", ((), (("do", "a"),))))), True)

    def test_by_chance(self):
        programs = chance_programs(61, 90)
        found = {True: 0, False: 0}
        for one, other in zip(programs, programs[1:] + programs[:1]):
            first, second = effects(one), effects(other)
            net = beyond(one, other)
            self.assertIs(within(one, other), net is None)
            self.assertIs(same(one, other), first == second)
            self.assertEqual(net is None, one_of(first, second) == second)
            found[net is None] += 1
            if net is not None:
                self.assertTrue(has(first, net) and not has(second, net))
            for row in nets_up_to("ab", min(len(net), 5) if net is not None else 4):
                if row == net:
                    break
                self.assertFalse(has(first, row) and not has(second, row))
        self.assertTrue(found[True] > 4 and found[False] > 4)

    def test_a_later_one(self):
        both = of(loop_of("a" * 12), ("do", "a" * 11))
        apart = of(("either", ((("do", "a" * 11),), (("do", "a" * 12), ("do", "a" * 11)))))
        self.assertEqual(beyond(both, apart), "a" * 35)
        self.assertIsNone(beyond(apart, both))

    def test_very_late(self):
        one = of(loop_of("a" * 11))
        some = [("either", ((), (("do", "a" * more),))) for more in (5, 10, 11)]
        other = of(("loop", (("do", "a" * 12), ("do", "a" * 5))), *some)
        sums = {x + y + z for x in (0, 5) for y in (0, 10) for z in (0, 11)}
        lengths = [n for n in range(0, 400, 11) if not any([n >= k and (n - k) % 17 == 0 for k in sums])]
        self.assertTrue(lengths[0] > 12)
        self.assertEqual(beyond(one, other), "a" * lengths[0])


class LeadingTest(unittest.TestCase):
    def test_plain(self):
        self.assertEqual(leading(Q, P), [(0, 0), (1, 1), (1, 2)])
        self.assertIsNone(leading(P, Q))
        self.assertEqual(leading(of(), of()), [(0, 0)])

    def test_by_chance(self):
        programs = chance_programs(62, 80)
        some = 0
        for one, other in zip(programs, programs[2:]):
            pairs = leading(one, other)
            self.assertEqual(pairs is None, not within(one, other))
            if pairs is not None:
                some += 1
                self.assertIs(type(pairs), list)
                self.assertEqual(pairs, sorted(pairs))
                self.assertTrue(right_leading(one, other, pairs))
                self.assertEqual(set(pairs), self.pairs_led(effects(one), effects(other)))
                self.assertIs(is_leading(one, other, pairs), True)
        self.assertTrue(some > 3)

    def pairs_led(self, first, second):
        found = {(0, 0)}
        while True:
            more = {(led, second.steps[t][x]) for s, t in found for x, led in first.steps[s].items()} | found
            if more == found:
                return found
            found = more

    def test_new_each_time(self):
        leading(Q, P).clear()
        self.assertEqual(len(leading(Q, P)), 3)


class IsLeadingTest(unittest.TestCase):
    ONE = of(loop_of("abab"), ("do", "B"))

    def setUp(self):
        self.pairs = leading(self.ONE, P)

    def judged(self, thing):
        before = copy.deepcopy(thing)
        answer = is_leading(self.ONE, P, thing)
        self.assertEqual(thing, before)
        return answer

    def test_right(self):
        self.assertIs(self.judged(self.pairs), True)
        self.assertIs(self.judged(self.pairs[::-1]), True)
        self.assertIs(self.judged(self.pairs[1:] + self.pairs[:1]), True)

    def test_a_pair_less_or_twice(self):
        for pair in self.pairs:
            self.assertIs(self.judged([other for other in self.pairs if other != pair]), False)
            self.assertIs(self.judged(self.pairs + [pair]), False)
        self.assertIs(self.judged([]), False)

    def test_more_pairs(self):
        answers = []
        for s in range(len(effects(self.ONE).steps)):
            for t in range(len(effects(P).steps)):
                if (s, t) not in self.pairs:
                    pairs = [(s, t)] + self.pairs
                    answers.append(right_leading(self.ONE, P, pairs))
                    self.assertIs(self.judged(pairs), answers[-1])
        self.assertIn(True, answers)
        self.assertIn(False, answers)

    def test_ends(self):
        some = of(("either", ((), (("do", "a"),))))
        self.assertIs(is_leading(of(("do", "a")), some, [(0, 0), (1, 1)]), True)
        self.assertIs(is_leading(some, of(("do", "a")), [(0, 0), (1, 1)]), False)
        self.assertIs(is_leading(of(("do", "a")), of(("do", "b")), [(0, 0), (1, 1)]), False)

    def test_flags(self):
        for pair in ((False, False), (0, False), (False, 0)):
            self.assertIs(self.judged([pair] + [other for other in self.pairs if other != (0, 0)]), False)
        flags = [(True if s == 1 else s, t) for s, t in self.pairs]
        self.assertIs(self.judged(flags), False)

    def test_lists_and_tuples(self):
        self.assertIs(self.judged(tuple(self.pairs)), False)
        self.assertIs(self.judged([list(pair) for pair in self.pairs]), False)
        self.assertIs(self.judged({pair: True for pair in self.pairs}), False)
        self.assertIs(self.judged([pair + (0,) for pair in self.pairs]), False)
        self.assertIs(self.judged([pair[:1] for pair in self.pairs]), False)

    def test_what_is_no_state(self):
        many, others = len(effects(self.ONE).steps), len(effects(P).steps)
        for pair in [(many, 0), (0, others), (-1, 0), (0, -1), (10 ** 59, 0), (0, "0"), (None, 0), ((), ())]:
            self.assertIs(self.judged(self.pairs + [pair]), False)

    def test_odd_things(self):
        for thing in odd_things() + odd_integers() + odd_strings() + [""]:
            self.assertIs(is_leading(self.ONE, P, thing), False)
            self.assertIs(is_leading(self.ONE, P, self.pairs + [thing]), False)
            if not (type(thing) is int and 0 <= thing < len(effects(self.ONE).steps)):
                self.assertIs(is_leading(self.ONE, P, self.pairs + [(thing, 0)]), False)

    def test_not_within(self):
        for thing in ([(0, 0)], [(0, 0), (1, 1), (2, 2)], [(s, t) for s in range(4) for t in range(3)]):
            self.assertIs(is_leading(P, Q, thing), False)


class ErrorsTest(unittest.TestCase):
    def calls(self, one, other):
        return [lambda: within(one, other), lambda: same(one, other), lambda: beyond(one, other),
                lambda: leading(one, other), lambda: is_leading(one, other, [(0, 0)]), lambda: is_leading(one, other, None)]

    def test_other_deeds_first(self):
        large = chain_and_choices(45)
        for one, other in [(of(), of(deeds="a")), (of(deeds="b"), of(deeds="a")), (of(deeds="a"), of(deeds="abc")),
                           (large, P), (P, large)]:
            for call in self.calls(one, other):
                with self.assertRaises(OtherDeeds):
                    call()

    def test_too_large(self):
        large, small = chain_and_choices(45), of(("do", "a"), deeds="abc")
        for one, other in [(large, small), (small, large), (large, large)]:
            for call in self.calls(one, other):
                with self.assertRaises(TooLarge) as caught:
                    call()
                self.assertEqual(caught.exception.most, 300)

    def test_just_not_too_large(self):
        large, small = chain_and_choices(44), of(("do", "a"), deeds="abc")
        self.assertEqual(len(effects(large).steps), 300)
        self.assertIs(within(large, small), False)
        self.assertEqual(beyond(small, large), "a")
        self.assertIs(same(large, large), True)
        self.assertIs(is_leading(large, large, leading(large, large)), True)


