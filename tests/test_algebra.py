"""Point 6.1: effects put together."""

import random
import unittest

from runsback.algebra import again, backward, behind, both, less, one_of
from runsback.effects import Effects, at, effects, has, lot_of, many
from runsback.errors import OtherDeeds, TooLarge
from runsback.programs import Program
from tests.samples import chance_programs, chance_row, flipped, nets_up_to, slow_net

EMPTY = lot_of("ab", [])
NOTHING = lot_of("ab", [""])
TWO_LOTS = (both, one_of, less, behind)


def loop_of(row, deeds="ab"):
    return effects(Program(deeds, {}, (("loop", (("do", row),)),)))


def chain(letters, deeds="ab"):
    """The lot of the one net of so many letters a."""
    lot = lot_of(deeds, [""])
    rest = letters
    while rest:
        lot = behind(lot, lot_of(deeds, ["a" * min(12, rest)]))
        rest -= min(12, rest)
    return lot


def chance_lots(seed, number):
    chance = random.Random(seed)
    return [[slow_net(chance_row(chance, "ab", 4)) for _ in range(chance.randint(0, 6))] for _ in range(number)]


def all_nets(lot):
    return {at(lot, number) for number in range(many(lot))}


class FiniteTest(unittest.TestCase):
    def test_by_chance(self):
        for first, second in zip(chance_lots(1, 80), chance_lots(2, 80)):
            one, other = lot_of("ab", first), lot_of("ab", second)
            here, there = set(first), set(second)
            self.assertEqual(all_nets(both(one, other)), here & there)
            self.assertEqual(all_nets(one_of(one, other)), here | there)
            self.assertEqual(all_nets(less(one, other)), here - there)
            self.assertEqual(all_nets(behind(one, other)), {slow_net(x + y) for x in here for y in there})
            self.assertEqual(all_nets(backward(one)), {flipped(x) for x in here})

    def test_just_the_same_states(self):
        for first, second in zip(chance_lots(3, 40), chance_lots(4, 40)):
            one, other = lot_of("ab", first), lot_of("ab", second)
            union = list(set(first) | set(second))
            self.assertEqual(one_of(one, other), lot_of("ab", union))
            self.assertEqual(both(one, other), lot_of("ab", [x for x in first if x in second]))
            self.assertEqual(less(one, other), lot_of("ab", [x for x in first if x not in second]))
            self.assertEqual(backward(backward(one)), one)

    def test_again(self):
        self.assertEqual(again(lot_of("ab", ["ab"])), loop_of("ab"))
        self.assertEqual(again(lot_of("ab", ["a", "A"])),
                         effects(Program("ab", {}, (("loop", (("either", ((("do", "a"),), (("do", "A"),))),)),))))
        self.assertEqual(again(NOTHING), NOTHING)

    def test_kinds(self):
        one = lot_of("ab", ["a"])
        for lot in [function(one, one) for function in TWO_LOTS] + [backward(one), again(one)]:
            self.assertIs(type(lot), Effects)
            self.assertEqual(lot.deeds, "ab")


class EmptyTest(unittest.TestCase):
    def test_empty(self):
        for lot in (EMPTY, NOTHING, lot_of("ab", ["ab", "B"]), loop_of("ab")):
            self.assertEqual(both(lot, EMPTY), EMPTY)
            self.assertEqual(both(EMPTY, lot), EMPTY)
            self.assertEqual(one_of(lot, EMPTY), lot)
            self.assertEqual(one_of(EMPTY, lot), lot)
            self.assertEqual(less(lot, EMPTY), lot)
            self.assertEqual(less(EMPTY, lot), EMPTY)
            self.assertEqual(less(lot, lot), EMPTY)
            self.assertEqual(behind(lot, EMPTY), EMPTY)
            self.assertEqual(behind(EMPTY, lot), EMPTY)
            self.assertEqual(behind(lot, NOTHING), lot)
            self.assertEqual(behind(NOTHING, lot), lot)
        self.assertEqual(backward(EMPTY), EMPTY)
        self.assertEqual(again(EMPTY), NOTHING)
        self.assertEqual((EMPTY.steps, EMPTY.ends), ([{}], ()))


class EndlessTest(unittest.TestCase):
    def test_all_that_fall_away(self):
        self.assertEqual(behind(loop_of("a"), loop_of("A")), again(lot_of("ab", ["a", "A"])))
        self.assertEqual(behind(loop_of("ab"), loop_of("BA")), one_of(loop_of("ab"), loop_of("BA")))
        self.assertEqual(both(loop_of("aa"), loop_of("aaa")), loop_of("a" * 6))
        self.assertEqual(backward(loop_of("ab")), loop_of("BA"))
        self.assertEqual(less(loop_of("a"), loop_of("aa")), behind(loop_of("aa"), lot_of("ab", ["a"])))
        self.assertEqual(again(lot_of("ab", ["aab", "B"])), again(one_of(loop_of("aab"), loop_of("B"))))

    def test_programs_put_together(self):
        programs = chance_programs(51, 40)
        for one, other in zip(programs, programs[1:]):
            first, second = effects(one), effects(other)
            try:
                self.assertEqual(effects(Program("ab", one.parts, (("loop", one.body),))), again(first))
                self.assertEqual(effects(Program("ab", one.parts, (("undo", one.body),))), backward(first))
            except ValueError:
                pass
            parts = {name[:1] + "x": self.renamed(one.parts[name], "x") for name in one.parts}
            parts.update({name[:1] + "y": self.renamed(other.parts[name], "y") for name in other.parts})
            blocks = (self.renamed(one.body, "x"), self.renamed(other.body, "y"))
            try:
                together = effects(Program("ab", parts, (("either", blocks),)))
                self.assertEqual(together, one_of(first, second))
                self.assertEqual(effects(Program("ab", parts, blocks[0] + blocks[1])), behind(first, second))
            except ValueError:
                pass

    def renamed(self, block, more):
        found = []
        for word, inner in block:
            if word == "part":
                inner = inner[:1] + more
            elif word in ("either", "other"):
                inner = tuple([self.renamed(choice, more) for choice in inner])
            elif word != "do":
                inner = self.renamed(inner, more)
            found.append((word, inner))
        return tuple(found)

    def test_nets_one_by_one(self):
        programs = chance_programs(52, 60)
        for one, other in zip(programs, programs[1:]):
            first, second = effects(one), effects(other)
            lots = (both(first, second), one_of(first, second), less(first, second), backward(first))
            for row in nets_up_to("ab", 4):
                here, there = has(first, row), has(second, row)
                self.assertEqual([has(lot, row) for lot in lots],
                                 [here and there, here or there, here and not there, has(first, flipped(row))])


class ErrorsTest(unittest.TestCase):
    def test_other_deeds(self):
        for function in TWO_LOTS:
            for one, other in [("a", "b"), ("ab", "a"), ("a", "ab"), ("ab", "abc")]:
                with self.assertRaises(OtherDeeds):
                    function(lot_of(one, []), lot_of(other, []))

    def test_other_deeds_come_first(self):
        long = chain(299)
        longer = [chain(299, "abc"), behind(chain(298, "abc"), lot_of("abc", ["c"]))]
        for function in TWO_LOTS:
            for other in longer:
                with self.assertRaises(OtherDeeds):
                    function(long, other)
                with self.assertRaises(OtherDeeds):
                    function(other, long)

    def test_arguments_stay_as_they_are(self):
        one, other = loop_of("ab"), chain(299)
        before = [(lot.deeds, lot.steps, lot.ends) for lot in (one, other)]
        for function in TWO_LOTS:
            try:
                function(other, one)
            except TooLarge:
                pass
        backward(other)
        again(other)
        self.assertEqual([(lot.deeds, lot.steps, lot.ends) for lot in (one, other)], before)

    def test_chain(self):
        self.assertEqual(len(chain(299).steps), 300)
        self.assertEqual(at(chain(299), 0), "a" * 299)

    def test_behind_too_large(self):
        long = chain(150)
        self.assertEqual(len(behind(long, chain(149)).steps), 300)
        self.assertTooLarge(behind, long, long)
        self.assertEqual(behind(chain(299), backward(chain(299))), NOTHING)

    def assertTooLarge(self, function, *lots):
        with self.assertRaises(TooLarge) as caught:
            function(*lots)
        self.assertEqual(caught.exception.most, 300)

    def test_one_of_too_large(self):
        turned = behind(behind(lot_of("ab", ["b"]), chain(148)), lot_of("ab", ["b"]))
        self.assertEqual(len(one_of(chain(149), turned).steps), 299)
        self.assertEqual(len(one_of(chain(150), turned).steps), 300)
        self.assertTooLarge(one_of, chain(151), turned)

    def test_less_and_both_too_large(self):
        loops = [effects(Program("ab", {}, (("loop", (("do", "a" * 12), ("do", "a" * more))),))) for more in (0, 3, 5, 6, 7, 8)]
        twelve, fifteen, seventeen, eighteen, nineteen, twenty = loops
        self.assertEqual(len(both(twelve, fifteen).steps), 60)
        self.assertEqual(len(both(fifteen, twenty).steps), 60)
        self.assertEqual(len(both(twelve, seventeen).steps), 204)
        self.assertTooLarge(both, seventeen, eighteen)
        self.assertTooLarge(less, seventeen, nineteen)
        self.assertEqual(len(less(twelve, seventeen).steps), 204)

    def test_both_at_300_and_301(self):
        self.assertEqual(len(both(chain(299), loop_of("a")).steps), 300)
        self.assertEqual(len(both(self.looped(12), self.looped(25)).steps), 300)
        self.assertTooLarge(both, self.looped(7), self.looped(43))

    def test_less_at_300_and_301(self):
        self.assertEqual(len(less(chain(299), EMPTY).steps), 300)
        self.assertEqual(len(less(self.looped(12), self.looped(25)).steps), 300)
        self.assertTooLarge(less, self.looped(7), self.looped(43))

    def looped(self, letters):
        return again(chain(letters))

    def test_backward_too_large(self):
        choice = ("either", ((("do", "a"),), (("do", "b"),)))
        parts = {"x": (choice,) * 4}
        early = Program("ab", parts, (("part", "x"), ("part", "x"), ("do", "a"), ("loop", (choice,))))
        lot = effects(early)
        self.assertTrue(len(lot.steps) < 20)
        self.assertTooLarge(backward, lot)
        early = Program("abc", {"x": (choice,) * 7}, (("part", "x"), ("do", "a"), ("loop", (choice,))))
        for letters in (43, 44, 45):
            put = behind(effects(early), self.chain_of_c(letters))
            if letters < 45:
                self.assertEqual(len(backward(put).steps), 256 + letters)
            else:
                self.assertTooLarge(backward, put)

    def chain_of_c(self, letters):
        rows = tuple([("do", "c" * min(12, letters - done)) for done in range(0, letters, 12)])
        return effects(Program("abc", {}, rows))

    def test_again_too_large(self):
        self.assertEqual(len(self.looped(299).steps), 299)
        there_and_back = one_of(chain(149), backward(chain(149)))
        self.assertEqual(len(again(there_and_back).steps), 299)
        self.assertEqual(len(again(one_of(there_and_back, lot_of("ab", ["bb"]))).steps), 300)
        self.assertTooLarge(again, one_of(there_and_back, lot_of("ab", ["bbb"])))
        self.assertTooLarge(again, one_of(chain(150), backward(chain(150))))
