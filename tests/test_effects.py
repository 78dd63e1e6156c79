"""Points 5.1 and 5.2: effects."""

import random
import unittest

from runsback.effects import Effects, at, count, effects, first, has, lot_of, many
from runsback.errors import NoDeeds, NoNumber, NoRow, NoRows, TooLarge, TooLong
from runsback.flows import flow
from runsback.programs import Program
from runsback.rows import earlier
from tests.samples import (LETTERS, chain_and_choices, chance_programs, chance_row, nets_up_to, odd_integers, odd_strings,
                           odd_things, rows_of_block, slow_detours, slow_has, slow_net)

P = Program("ab", {}, (("loop", (("do", "ab"),)), ("do", "B")))
EMPTY = lot_of("ab", [])
ALL = effects(Program("ab", {}, (("loop", (("either", ((("do", "a"),), (("do", "A"),), (("do", "b"),), (("do", "B"),))),)),)))


def sorted_nets(nets):
    return sorted(nets, key=lambda one: (len(one), [LETTERS.index(letter) for letter in one]))


class StatesTest(unittest.TestCase):
    def assertFewest(self, lot):
        """All of point 5.1 but which nets belong to the lot."""
        steps, ends = lot.steps, lot.ends
        self.assertIs(type(steps), list)
        self.assertIs(type(ends), tuple)
        self.assertEqual(list(ends), sorted(set(ends)))
        letters = [letter for letter in LETTERS if letter.lower() in lot.deeds]
        if not ends:
            self.assertEqual((steps, ends), ([{}], ()))
            return
        self.assertNumbered(steps, letters)
        self.assertAlive(steps, ends)
        self.assertUnlike(steps, ends, letters)
        last = {state: {letter for step in steps for letter in step if step[letter] == state} for state in range(len(steps))}
        for state, step in enumerate(steps):
            self.assertFalse({letter.swapcase() for letter in last[state]} & set(step))

    def assertNumbered(self, steps, letters):
        rows = {0: ""}
        order = [0]
        for state in order:
            for letter in letters:
                if letter in steps[state] and steps[state][letter] not in rows:
                    rows[steps[state][letter]] = rows[state] + letter
                    order.append(steps[state][letter])
        self.assertEqual(order, list(range(len(steps))))
        for state in range(len(steps) - 1):
            self.assertTrue(earlier(rows[state], rows[state + 1]))

    def assertAlive(self, steps, ends):
        alive = set(ends)
        while True:
            more = {state for state, step in enumerate(steps) if set(step.values()) & alive} | alive
            if more == alive:
                break
            alive = more
        self.assertEqual(alive, set(range(len(steps))))

    def assertUnlike(self, steps, ends, letters):
        kinds = [state in ends for state in range(len(steps))]
        for _ in steps:
            told = [(kinds[state],) + tuple([kinds[step[x]] if x in step else None for x in letters])
                    for state, step in enumerate(steps)]
            numbers = {kind: number for number, kind in enumerate(sorted(set(told), key=repr))}
            kinds = [numbers[kind] for kind in told]
        self.assertEqual(len(set(kinds)), len(steps))

    def test_plain(self):
        lot = effects(P)
        self.assertEqual(lot.deeds, "ab")
        self.assertEqual(lot.steps, [{"a": 1, "B": 2}, {"b": 3}, {}, {"a": 1}])
        self.assertEqual(lot.ends, (1, 2))

    def test_empty_lot(self):
        self.assertEqual((EMPTY.deeds, EMPTY.steps, EMPTY.ends), ("ab", [{}], ()))

    def test_lot_of_the_empty_net(self):
        for lot in (lot_of("ab", [""]), effects(Program("ab", {}, ())), lot_of("ab", ["aA", ""])):
            self.assertEqual((lot.steps, lot.ends), ([{}], (0,)))

    def test_all_nets(self):
        self.assertEqual(ALL.steps, [{"a": 1, "A": 2, "b": 3, "B": 4}, {"a": 1, "b": 3, "B": 4}, {"A": 2, "b": 3, "B": 4},
                                     {"a": 1, "A": 2, "b": 3}, {"a": 1, "A": 2, "B": 4}])
        self.assertEqual(ALL.ends, (0, 1, 2, 3, 4))

    def test_fewest(self):
        lot = lot_of("abc", ["ab", "cb", "a"])
        self.assertEqual(lot.steps, [{"a": 1, "c": 2}, {"b": 3}, {"b": 3}, {}])
        self.assertEqual(lot.ends, (1, 3))
        self.assertFewest(lot)
        self.assertEqual(lot_of("abc", ["ab", "cb"]).steps, [{"a": 1, "c": 1}, {"b": 2}, {}])

    def test_by_chance(self):
        for program in chance_programs(41, 120):
            lot = effects(program)
            self.assertIs(type(lot), Effects)
            self.assertFewest(lot)
            places, arrows = flow(program)
            pairs = slow_detours(places, arrows)
            for one in nets_up_to("ab", 4):
                self.assertEqual(has(lot, one), slow_has(places, arrows, pairs, one))

    def test_runs(self):
        for program in chance_programs(42, 60):
            lot = effects(program)
            text = str(program.body) + str(program.parts)
            rows = rows_of_block(program.parts, program.body, 1 if text.count("loop") > 1 else 3)
            nets = {slow_net(row) for row in rows}
            self.assertTrue(all([has(lot, one) for one in nets]))
            if "loop" not in text:
                self.assertEqual(many(lot), len(nets))
                self.assertEqual([at(lot, number) for number in range(len(nets))], sorted_nets(nets))

    def test_lot_of_by_chance(self):
        chance = random.Random(43)
        for _ in range(60):
            rows = [chance_row(chance, "abc", 12) for _ in range(chance.randint(0, 20))]
            lot = lot_of("abc", rows)
            nets = sorted_nets({slow_net(row) for row in rows})
            self.assertFewest(lot)
            self.assertEqual(many(lot), len(nets))
            self.assertEqual([at(lot, number) for number in range(len(nets) + 2)], nets + [None, None])

    def test_new_each_time(self):
        lot = effects(P)
        lot.steps[0].clear()
        lot.steps.clear()
        self.assertEqual(lot.steps, [{"a": 1, "B": 2}, {"b": 3}, {}, {"a": 1}])
        self.assertEqual(lot, effects(P))

    def test_equal(self):
        self.assertTrue(effects(P) == effects(P))
        self.assertFalse(effects(P) != effects(P))
        other = Program("ab", {"x": (("do", "a"),)},
                        (("either", ((("do", "B"),), (("loop", (("do", "ab"),)), ("part", "x")))),))
        self.assertTrue(effects(other) == effects(P))
        self.assertTrue(lot_of("ab", ["a", "b"]) == lot_of("ab", ("b", "a", "aAb")))

    def test_unlike(self):
        one = lot_of("ab", ["a"])
        for other in [lot_of("a", ["a"]), lot_of("abc", ["a"]), lot_of("ab", ["A"]), lot_of("ab", ["a", ""]), EMPTY,
                      lot_of("ab", ["aa"]), lot_of("ab", ["b"])]:
            self.assertFalse(one == other)
            self.assertTrue(one != other)

    def test_unlike_other_things(self):
        one = lot_of("a", [])
        for thing in odd_things() + odd_integers() + odd_strings() + [P, ("a", [{}], ()), [{}]]:
            self.assertFalse(one == thing)
            self.assertTrue(one != thing)

    def test_too_large(self):
        lot = effects(chain_and_choices(44))
        self.assertEqual(len(lot.steps), 300)
        self.assertFewest(lot)
        with self.assertRaises(TooLarge) as caught:
            effects(chain_and_choices(45))
        self.assertEqual(caught.exception.most, 300)


class LotOfTest(unittest.TestCase):
    def test_deeds(self):
        for deeds in ("a", "z", "ab", "abcd", "mnyz"):
            self.assertEqual(lot_of(deeds, [deeds]).deeds, deeds)
        for thing in odd_things() + odd_integers() + odd_strings() + ["", "ba", "aa", "abcde", "A", "aB"]:
            with self.assertRaises(NoDeeds):
                lot_of(thing, ["a"])
            with self.assertRaises(NoDeeds):
                lot_of(thing, None)

    def test_number_of_rows(self):
        twenty = [LETTERS[0] * number for number in range(10)] + ["A" * number for number in range(1, 11)]
        self.assertEqual(many(lot_of("a", twenty)), 20)
        self.assertEqual(many(lot_of("a", tuple(twenty))), 20)
        self.assertEqual(many(lot_of("a", ["a"] * 20)), 1)
        for rows in (twenty + ["aa"], ["a"] * 21, ("a",) * 21):
            with self.assertRaises(NoRows):
                lot_of("a", rows)

    def test_length_of_rows(self):
        self.assertEqual(first(lot_of("ab", ["abababababab"])), "abababababab")
        for row in ("a" * 13, "aA" * 6 + "a"):
            for rows in ([row], ("a", row)):
                with self.assertRaises(NoRows):
                    lot_of("ab", rows)

    def test_all_states(self):
        chance = random.Random(5)
        rows = ["".join([chance.choice("abcd") for _ in range(12)]) for _ in range(20)]
        self.assertEqual(many(lot_of("abcd", rows)), len(set(rows)))

    def test_rows_of_other_letters(self):
        for row in ("b", "aB", "c", "Z"):
            with self.assertRaises(NoRows):
                lot_of("a", ["a", row])

    def test_wrong(self):
        for thing in odd_things() + odd_integers() + odd_strings() + ["", "a"]:
            if thing not in ([], ()):
                with self.assertRaises(NoRows):
                    lot_of("b", thing)
            for rows in ([thing], (thing,), ["b", thing]):
                if thing != "":
                    with self.assertRaises(NoRows):
                        lot_of("b", rows)

    def test_rows_may_be_changed_afterwards(self):
        rows = ["a", "b"]
        lot = lot_of("ab", rows)
        rows.clear()
        self.assertEqual(many(lot), 2)


class HasTest(unittest.TestCase):
    def test_plain(self):
        lot = effects(P)
        for row in ("a", "B", "aba", "abBBbbba" + "AA" + "aa", "ababa", "BbB"):
            self.assertIs(has(lot, row), slow_net(row) in ("a", "B", "aba", "ababa"))
        for row in ("", "b", "A", "BAB", "ab", "aab", "bab", "ab" * 100):
            self.assertIs(has(lot, row), False)
        self.assertIs(has(lot, "ab" * 99 + "a"), True)

    def test_empty(self):
        self.assertIs(has(EMPTY, ""), False)
        self.assertIs(has(EMPTY, "a"), False)
        self.assertIs(has(lot_of("a", [""]), "aA"), True)

    def test_wrong(self):
        for thing in odd_things() + odd_integers() + odd_strings() + ["c", "abC"]:
            for lot in (effects(P), EMPTY):
                with self.assertRaises(NoRow):
                    has(lot, thing)


class NumbersTest(unittest.TestCase):
    def test_examples(self):
        lot = effects(P)
        self.assertEqual((at(lot, 0), at(lot, 1), at(lot, 2)), ("a", "B", "aba"))
        self.assertEqual(count(lot, 1), 2)

    def test_first(self):
        self.assertEqual(first(effects(P)), "a")
        self.assertIsNone(first(EMPTY))
        self.assertEqual(first(lot_of("ab", ["bb", "aB", "ab", "Ab"])), "ab")
        self.assertEqual(first(lot_of("ab", ["a", ""])), "")
        self.assertEqual(first(ALL), "")

    def test_many(self):
        self.assertEqual(many(EMPTY), 0)
        self.assertEqual(many(lot_of("ab", [""])), 1)
        self.assertEqual(many(lot_of("ab", ["a", "b", "bBa"])), 2)
        self.assertIsNone(many(effects(P)))
        self.assertIsNone(many(ALL))
        self.assertIsNone(many(effects(Program("a", {}, (("loop", (("do", "a"),)),)))))
        self.assertEqual(many(effects(Program("a", {}, (("loop", (("do", "aA"),)), ("do", "a"))))), 1)

    def test_many_of_choices(self):
        choice = ("either", ((("do", "a"),), (("do", "b"),), (("do", "c"),), (("do", "d"),)))
        self.assertEqual(many(effects(Program("abcd", {}, (choice,) * 8))), 4 ** 8)
        parts = {"x": (choice,) * 8}
        self.assertEqual(many(effects(Program("abcd", parts, (("part", "x"),) * 6))), 4 ** 48)

    def test_count(self):
        self.assertEqual([count(ALL, length) for length in range(5)], [1, 4, 12, 36, 108])
        self.assertEqual(count(ALL, 1000), 4 * 3 ** 999)
        self.assertEqual([count(effects(P), length) for length in range(6)], [0, 2, 0, 1, 0, 1])
        self.assertEqual([count(EMPTY, length) for length in (0, 1, 1000)], [0, 0, 0])
        lot = lot_of("ab", ["a", "b", "", "aa"])
        self.assertEqual([count(lot, length) for length in (0, 1, 2, 3, 1000)], [1, 2, 1, 0, 0])

    def test_count_wrong(self):
        for thing in odd_things() + odd_strings() + [-1, 1001, 10 ** 59, -(10 ** 59), "1"]:
            for lot in (ALL, EMPTY):
                with self.assertRaises(NoNumber):
                    count(lot, thing)

    def test_count_by_chance(self):
        for program in chance_programs(44, 60):
            lot = effects(program)
            nets = [one for one in nets_up_to("ab", 4) if has(lot, one)]
            for length in range(5):
                self.assertEqual(count(lot, length), len([one for one in nets if len(one) == length]))
            for number, one in enumerate(nets):
                self.assertEqual(at(lot, number), one)

    def test_at_the_end(self):
        lot = lot_of("ab", ["", "ab", "b"])
        self.assertEqual([at(lot, number) for number in range(4)], ["", "b", "ab", None])
        self.assertIsNone(at(lot, 10 ** 30))
        self.assertIsNone(at(EMPTY, 0))
        self.assertIsNone(at(EMPTY, 10 ** 30))

    def test_at_wrong(self):
        for thing in odd_things() + odd_strings() + [-1, 10 ** 30 + 1, 10 ** 59, "1"]:
            for lot in (ALL, EMPTY):
                with self.assertRaises(NoNumber):
                    at(lot, thing)

    def test_at_great_numbers(self):
        for number in [0, 1, 4, 5, 10 ** 6, 10 ** 29 + 7, 10 ** 30 - 1, 10 ** 30]:
            row = at(ALL, number)
            ahead = sum([4 * 3 ** (length - 1) if length else 1 for length in range(len(row))])
            last = ""
            for place, letter in enumerate(row):
                for smaller in "aAbB"[:"aAbB".index(letter)]:
                    if smaller != last.swapcase():
                        ahead += 3 ** (len(row) - place - 1)
                last = letter
            self.assertEqual(ahead, number)

    def test_at_great_numbers_of_finite_lots(self):
        choice = ("either", ((("do", "a"),), (("do", "b"),), (("do", "c"),), (("do", "d"),)))
        lot = effects(Program("abcd", {"x": (choice,) * 8}, (("part", "x"),) * 6))
        number = 4 ** 48 - 1
        self.assertEqual(at(lot, number), "d" * 48)
        self.assertIsNone(at(lot, number + 1))
        self.assertEqual(at(lot, number - 1), "d" * 47 + "c")

    def test_too_long(self):
        lot = effects(Program("a", {}, (("loop", (("do", "a"),)),)))
        self.assertEqual(at(lot, 5000), "a" * 5000)
        for number in (5001, 10 ** 30):
            with self.assertRaises(TooLong) as caught:
                at(lot, number)
            self.assertEqual(caught.exception.most, 5000)
        two = effects(Program("ab", {}, (("loop", (("do", "ab"),)), ("either", ((), (("do", "b"),))))))
        self.assertEqual(at(two, 5000), "ab" * 2500)
        with self.assertRaises(TooLong):
            at(two, 5001)
        rare = effects(Program("a", {}, (("loop", (("do", "a" * 12),)),)))
        self.assertEqual(at(rare, 416), "a" * 4992)
        with self.assertRaises(TooLong):
            at(rare, 417)
