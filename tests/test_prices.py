"""Points 8.1 and 8.2: prices, plans told back, and floors."""

import copy
import heapq
import random
import unittest

from runsback.effects import effects, has
from runsback.errors import BadPrices, NoRow, TooLong
from runsback.flows import detours, flow
from runsback.plans import is_plan, letters_of, net_of, row_of
from runsback.prices import cheapest, heights, is_floor, plan_for
from runsback.programs import Program
from runsback.rows import power
from tests.samples import (chance_prices, chance_programs, nets_up_to, odd_integers, odd_strings, odd_things, slow_detours,
                           slow_net)

P = Program("ab", {}, (("loop", (("do", "ab"),)), ("do", "B")))
PRICES = {"a": 1, "A": 1, "b": 2, "B": 5}
ONES = {"a": 1, "A": 1, "b": 1, "B": 1}
WRONG_ROWS = odd_things() + odd_integers() + odd_strings() + ["c", "C", "abc"]


def of(*body, deeds="ab", parts=None):
    return Program(deeds, parts or {}, body)


def loop_of(*rows):
    return ("loop", (("either", tuple([(("do", row),) for row in rows])),))


def price_of(prices, row):
    return sum([prices[letter] for letter in row])


def slow_prices(program, prices, most):
    """The dict from the nets of all runs of at most this price to their least prices, letter by letter."""
    many, arrows = flow(program)
    queue = [(0, 0, "")]
    done = {}
    while queue:
        price, place, row = heapq.heappop(queue)
        if (place, row) in done or price > most:
            continue
        done[(place, row)] = price
        for start, letter, goal in arrows:
            if start == place:
                more = prices[letter] if letter else 0
                heapq.heappush(queue, (price + more, goal, slow_net(row + letter)))
    return {row: price for (place, row), price in done.items() if place == 1}


def slow_heights(program, prices):
    """The sums of all detours, by going through all pairs until nothing is less."""
    many, arrows = flow(program)
    sums = {(p, p): 0 for p in range(many)}
    sums.update({(p, q): 0 for p, x, q in arrows if x == ""})
    while True:
        before = dict(sums)
        offers = [((p, r), before[(p, q)] + before[(s, r)]) for p, q in before for s, r in before if q == s]
        offers += [((p, q), before[(s, t)] + prices[x] + prices[y]) for p, x, s in arrows if x
                   for t, y, q in arrows if y == x.swapcase() and (s, t) in before]
        for pair, total in offers:
            sums[pair] = min(total, sums.get(pair, total))
        if sums == before:
            return sums


def right_floor(program, prices, row, least, thing):
    """The point word by word, for a dict from pairs of places to integers from 0 on."""
    many, arrows = flow(program)
    if any([thing.get((p, p)) != 0 for p in range(many)]):
        return False
    if any([thing.get((p, q)) != 0 for p, x, q in arrows if x == ""]):
        return False
    bounds = [((p, r), thing[(p, q)] + thing[(s, r)]) for p, q in thing for s, r in thing if q == s]
    bounds += [((p, q), thing[(s, t)] + prices[x] + prices[y]) for p, x, s in arrows if x
               for t, y, q in arrows if y == x.swapcase() and (s, t) in thing]
    if any([pair not in thing or thing[pair] > bound for pair, bound in bounds]):
        return False
    sums = {q: thing[(p, q)] for p, q in thing if p == 0}
    for letter in slow_net(row):
        offers = [(r, sums[p] + prices[letter] + thing[(s, r)]) for p, x, q in arrows if x == letter and p in sums
                  for s, r in thing if s == q]
        sums = {r: min([total for place, total in offers if place == r]) for r, _ in offers}
    return 1 not in sums or sums[1] >= least


class CheapestTest(unittest.TestCase):
    def assertCheapest(self, program, prices, row, price):
        found = cheapest(program, prices, row)
        if price is None:
            self.assertIsNone(found)
            return
        self.assertIs(type(found), tuple)
        self.assertEqual(found[0], price)
        self.assertIs(type(found[0]), int)
        done = row_of(program, found[1])
        self.assertEqual(price_of(prices, done), price)
        self.assertEqual(slow_net(done), slow_net(row))

    def test_example(self):
        self.assertCheapest(P, PRICES, "a", 8)
        self.assertCheapest(P, PRICES, "abB", 8)
        self.assertCheapest(P, PRICES, "B", 5)
        self.assertCheapest(P, PRICES, "aba", 11)

    def test_no_effect(self):
        for row in ("", "A", "b", "aab", "aA"):
            self.assertCheapest(P, PRICES, row, None)

    def test_unlike_prices(self):
        program = of(("either", ((("do", "a"),), (("do", "baB"),), (("do", "Baa"), ("do", "Ab")), ())))
        for prices, price in [(ONES, 1), ({"a": 9, "A": 1, "b": 1, "B": 1}, 9), (PRICES, 1)]:
            self.assertCheapest(program, prices, "a", price)
        self.assertCheapest(program, PRICES, "baB", 8)
        self.assertCheapest(program, PRICES, "Bab", 10)
        self.assertCheapest(program, PRICES, "", 0)
        two = of(("either", ((("do", "aaaA"),), (("do", "abBa"),))))
        self.assertCheapest(two, {"a": 1, "A": 9, "b": 1, "B": 1}, "aa", 4)
        self.assertCheapest(two, {"a": 1, "A": 2, "b": 9, "B": 1}, "aa", 5)
        self.assertEqual(cheapest(two, {"a": 1, "A": 9, "b": 1, "B": 1}, "aa")[1], ((1, ((),)),))
        self.assertEqual(cheapest(two, {"a": 1, "A": 2, "b": 9, "B": 1}, "aa")[1], ((0, ((),)),))

    def test_empty_row(self):
        self.assertCheapest(of(), ONES, "", 0)
        self.assertCheapest(of(loop_of("ab")), ONES, "", 0)
        self.assertCheapest(of(("do", "a"), ("do", "A")), PRICES, "", 2)
        self.assertCheapest(of(loop_of("a"), ("do", "aab"), loop_of("A"), ("do", "B")), PRICES, "bB", None)
        self.assertCheapest(of(loop_of("A"), ("do", "aab"), ("do", "B")), PRICES, "bB", 11)

    def test_nothing_in_circles(self):
        self.assertEqual(cheapest(of(loop_of("", "a")), ONES, "aa"), (2, (((((1, ((),)),), 2),),)))
        inner = ("loop", (("loop", ()), ("do", "")))
        self.assertEqual(cheapest(of(inner, ("do", "a"), inner), ONES, "a"), (1, ((), (), ())))
        self.assertEqual(plan_for(of(inner, inner), ""), ((), ()))

    def test_all_statements(self):
        parts = {"x": (("either", ((("do", "a"),), (("loop", (("do", "b"), ("do", "a"))),), ())), ("do", "b"))}
        bodies = [
            (("part", "x"), ("undo", (("part", "x"),))),
            (("undo", (("undo", (("part", "x"), ("do", "a"))),)),),
            (("undo", (("other", ((("do", "ab"), ("do", "a")), (("part", "x"),), ())), ("loop", (("do", "a"),)))),),
            (("loop", (("undo", (("loop", (("do", "ab"), ("either", ((("do", "a"),), (("do", "b"),))))), ("do", "B"))),)),),
            (("other", ((("other", ((), (("do", "a"),))), ("do", "b")), (("loop", (("part", "x"),)),))), ("do", "A"))]
        for body in bodies:
            program = of(*body, parts=parts)
            least = slow_prices(program, PRICES, 9)
            self.assertTrue(len(least) > 2)
            for row in least:
                self.assertCheapest(program, PRICES, row, least[row])

    def test_by_chance(self):
        chance = random.Random(71)
        several = 0
        for program in chance_programs(72, 70):
            prices = chance_prices(chance, "ab", 4)
            least = slow_prices(program, prices, 7)
            for row in nets_up_to("ab", 3):
                found = cheapest(program, prices, row)
                self.assertEqual(found is None, not has(effects(program), row))
                if row in least:
                    several += 1
                    self.assertCheapest(program, prices, row, least[row])
                elif found is not None:
                    self.assertTrue(found[0] > 7)
                    self.assertCheapest(program, prices, row, found[0])
        self.assertTrue(several > 100)

    def test_longer_rows(self):
        chance = random.Random(73)
        for program in chance_programs(74, 40):
            least = slow_prices(program, ONES, 6)
            for row in list(least)[:20]:
                one = chance.choice("ab") + row
                self.assertCheapest(program, ONES, one[0] + one[0].swapcase() + row, least[row])

    def test_bad_prices(self):
        wrong = [{}, {"a": 1}, dict(PRICES, c=1), dict(PRICES, C=1), {"a": 1, "A": 1, "b": 1}, {"a": 1, "A": 1, "b": 1, "c": 1},
                 [("a", 1), ("A", 1), ("b", 1), ("B", 1)], {"a": 1, "A": 1, "b": 1, b"B": 1}, {"a": 1, "A": 1, "b": 1, None: 1}]
        for thing in wrong + odd_things() + odd_integers() + odd_strings():
            self.assertBadPrices(thing)
        for price in [0, 100, -1, True, False, None, "1", b"1", (1,), [1], {}, 10 ** 59, -(10 ** 59)]:
            for letter in PRICES:
                self.assertBadPrices(dict(PRICES, **{letter: price}))

    def assertBadPrices(self, thing):
        for call in [lambda: cheapest(P, thing, "a"), lambda: cheapest(P, thing, None), lambda: heights(P, thing),
                     lambda: is_floor(P, thing, "a", 1, {}), lambda: is_floor(P, thing, None, 1, {})]:
            with self.assertRaises(BadPrices):
                call()

    def test_bounds_of_prices(self):
        self.assertCheapest(P, {"a": 99, "A": 99, "b": 99, "B": 99}, "a", 297)
        self.assertCheapest(P, {"B": 1, "b": 1, "A": 1, "a": 1}, "a", 3)

    def test_no_row(self):
        for thing in WRONG_ROWS:
            with self.assertRaises(NoRow):
                cheapest(P, PRICES, thing)
            with self.assertRaises(NoRow):
                plan_for(P, thing)
            with self.assertRaises(NoRow):
                is_floor(P, PRICES, thing, 1, heights(P, PRICES))

    def test_too_long(self):
        program = of(loop_of("a", "b"))
        row = "a" * 50 + "b"
        self.assertCheapest(program, {"a": 99, "A": 1, "b": 50, "B": 1}, row, 5000)
        with self.assertRaises(TooLong) as caught:
            cheapest(program, {"a": 99, "A": 1, "b": 51, "B": 1}, row)
        self.assertEqual(caught.exception.most, 5000)
        self.assertIsNone(cheapest(program, {"a": 99, "A": 99, "b": 51, "B": 1}, "A" * 200))
        with self.assertRaises(TooLong):
            cheapest(program, {"a": 99, "A": 99, "b": 99, "B": 99}, "a" * 200)

    def test_too_long_by_detours(self):
        program = of(("loop", (("do", "a" * 12), ("do", "a" * 12))), ("loop", (("do", "A" * 12), ("do", "A" * 11))))
        self.assertCheapest(program, ONES, "a", 24 * 1 + 23 * 1)
        self.assertCheapest(program, ONES, "A", 24 * 22 + 23 * 23)
        self.assertCheapest(program, {"a": 6, "A": 3, "b": 1, "B": 1}, "A", 6 * 24 * 22 + 3 * 23 * 23)
        with self.assertRaises(TooLong):
            cheapest(program, {"a": 7, "A": 3, "b": 1, "B": 1}, "A")

    def test_nothing_is_changed(self):
        prices = dict(PRICES)
        cheapest(P, prices, "a")
        heights(P, prices)
        self.assertEqual(prices, PRICES)


class PlanForTest(unittest.TestCase):
    def test_plain(self):
        self.assertEqual(plan_for(P, "a"), (((((),), 1),), ()))
        self.assertEqual(plan_for(P, "bB" + "ab" * 7 + "a"), (((((),), 8),), ()))
        self.assertIsNone(plan_for(P, "b"))
        self.assertEqual(plan_for(of(("either", ((("do", "abB"),), (("do", "a"),)))), "a"), ((1, ((),)),))

    def test_by_chance(self):
        for program in chance_programs(75, 60):
            least = slow_prices(program, ONES, 6)
            for row in nets_up_to("ab", 3):
                plan = plan_for(program, row)
                self.assertEqual(plan is None, not has(effects(program), row))
                if plan is not None:
                    self.assertIs(is_plan(program, plan), True)
                    self.assertEqual(net_of(program, plan), row)
                    if row in least:
                        self.assertEqual(letters_of(program, plan), least[row])
                    else:
                        self.assertTrue(letters_of(program, plan) > 6)

    def test_too_long(self):
        for rows in (("a",), ("a", "b", "A")):
            program = of(loop_of(*rows))
            row = power("a" * 5, 1000)
            self.assertEqual(letters_of(program, plan_for(program, row)), 5000)
            with self.assertRaises(TooLong) as caught:
                plan_for(program, row + "a")
            self.assertEqual(caught.exception.most, 5000)
        self.assertIsNone(plan_for(of(loop_of("aa")), power("a" * 5, 1000) + "a"))
        turned = of(("do", "b"), loop_of("a"), ("do", "B"))
        self.assertEqual(letters_of(turned, plan_for(turned, "b" + power("a" * 7, 714) + "B")), 5000)
        with self.assertRaises(TooLong):
            plan_for(turned, "b" + power("a" * 7, 714) + "aB")


class HeightsTest(unittest.TestCase):
    def test_plain(self):
        self.assertEqual(heights(P, PRICES), {(0, 0): 0, (1, 1): 0, (2, 2): 0, (3, 3): 0, (4, 4): 0, (0, 3): 0, (3, 2): 0,
                                              (0, 2): 0, (4, 1): 7})
        self.assertEqual(heights(of(("do", "aA")), PRICES), {(0, 0): 0, (1, 1): 0, (2, 2): 0, (0, 1): 2})

    def test_by_chance(self):
        chance = random.Random(76)
        for program in chance_programs(77, 60):
            prices = chance_prices(chance, "ab")
            found = heights(program, prices)
            self.assertIs(type(found), dict)
            self.assertEqual(sorted(found), detours(program))
            self.assertEqual(found, slow_heights(program, prices))

    def test_great_sums(self):
        rounds = [("loop", (("do", "a" * 7),)), ("loop", (("do", "A" * 8),)), ("loop", (("do", "a" * 5),))]
        program = of(rounds[0], rounds[1], ("do", "b"), rounds[2], rounds[1], ("do", "B"))
        prices = {"a": 99, "A": 98, "b": 1, "B": 1}
        found = heights(program, prices)
        self.assertEqual(set(found), slow_detours(*flow(program)))
        self.assertEqual(found, slow_heights(program, prices))

    def test_new_each_time(self):
        heights(P, PRICES).clear()
        self.assertEqual(len(heights(P, PRICES)), 9)


class IsFloorTest(unittest.TestCase):
    ROW = "a"
    LEAST = 8

    def setUp(self):
        self.floor = heights(P, PRICES)

    def judged(self, thing, row="a", least=8):
        before = copy.deepcopy(thing)
        answer = is_floor(P, PRICES, row, least, thing)
        self.assertEqual(thing, before)
        return answer

    def test_heights(self):
        for least in (8, 7, 1, 0, -1, -(10 ** 59)):
            self.assertIs(self.judged(self.floor, "a", least), True)
        for least in (9, 10, 10 ** 59):
            self.assertIs(self.judged(self.floor, "a", least), False)

    def test_no_effect(self):
        for row in ("", "b", "A", "abA"):
            for least in (0, 8, 10 ** 59):
                self.assertIs(self.judged(self.floor, row, least), True)

    def test_by_chance(self):
        chance = random.Random(78)
        for program in chance_programs(79, 40):
            prices = chance_prices(chance, "ab")
            floor = heights(program, prices)
            for row in nets_up_to("ab", 2):
                found = cheapest(program, prices, row)
                if found is None:
                    self.assertIs(is_floor(program, prices, row, 10 ** 50, floor), True)
                else:
                    self.assertIs(is_floor(program, prices, row, found[0], floor), True)
                    self.assertIs(is_floor(program, prices, row, found[0] + 1, floor), False)

    def test_other_floors(self):
        chance = random.Random(80)
        answers = []
        for program in chance_programs(81, 150):
            prices = chance_prices(chance, "ab", 3)
            floor = heights(program, prices)
            many = flow(program)[0]
            for pair in chance.sample(sorted(floor), min(2, len(floor))):
                floor[pair] = max(0, floor[pair] + chance.choice([-2, -1, -1, 1]))
            if chance.random() < 0.5:
                floor[(chance.randrange(many), chance.randrange(many))] = chance.randint(0, 4)
            for row in ("", "a", "bA"):
                for least in (0, 3):
                    answers.append(right_floor(program, prices, row, least, floor))
                    self.assertIs(is_floor(program, prices, row, least, floor), answers[-1])
        self.assertTrue(answers.count(True) > 30 and answers.count(False) > 30)

    def test_all_nothing(self):
        everything = {(p, q): 0 for p in range(5) for q in range(5)}
        self.assertIs(self.judged(everything, "a", 1), True)
        self.assertIs(self.judged(everything, "a", 2), False)
        self.assertIs(self.judged(everything, "", 0), True)
        self.assertIs(self.judged(everything, "", 1), False)
        self.assertIs(self.judged(everything, "A", 10 ** 9), True)

    def test_lesser_numbers(self):
        for number in range(8):
            self.assertIs(self.judged(dict(self.floor) | {(4, 1): number}, "a", 1 + number), True)
            self.assertIs(self.judged(dict(self.floor) | {(4, 1): number}, "a", 2 + number), False)

    def test_a_key_less(self):
        for pair in self.floor:
            self.assertIs(self.judged({key: self.floor[key] for key in self.floor if key != pair}, "a", 0), False)

    def test_numbers_too_great(self):
        for pair in self.floor:
            for number in (self.floor[pair] + 1, 10 ** 59):
                self.assertIs(self.judged(dict(self.floor) | {pair: number}, "a", 0), False)

    def test_numbers_that_are_none(self):
        for pair in self.floor:
            for number in (-1, False, True, None, "0", (0,), [], -(10 ** 59)):
                self.assertIs(self.judged(dict(self.floor) | {pair: number}, "a", 0), False)

    def test_keys_that_are_none(self):
        for key in [(0,), (0, 0, 0), (0, 5), (5, 0), (-1, 0), (0, -1), "00", 0, None, (), (None, 0), ("0", 0), (10 ** 59, 0), b"ab"]:
            self.assertIs(self.judged(dict(self.floor) | {key: 0}, "a", 0), False)
        for pair in [(False, False), (True, True), (True, 1), (0, False)]:
            floor = {key: self.floor[key] for key in self.floor if key != pair}
            floor[pair] = 0
            self.assertIs(self.judged(floor, "a", 0), False)

    def test_odd_things(self):
        for thing in odd_things() + odd_integers() + odd_strings() + [list(self.floor.items()), sorted(self.floor)]:
            self.assertIs(is_floor(P, PRICES, "a", 0, thing), False)

    def test_other_prices(self):
        self.assertIs(is_floor(P, ONES, "a", 3, self.floor), False)
        self.assertIs(is_floor(P, {"a": 1, "A": 1, "b": 3, "B": 5}, "a", 8, self.floor), True)


class OrderOfErrorsTest(unittest.TestCase):
    def test_order(self):
        program = of(loop_of("a"))
        for call in [lambda: cheapest(program, {}, "c"), lambda: is_floor(program, None, "c", 1, None)]:
            with self.assertRaises(BadPrices):
                call()
        dear = {"a": 99, "A": 99, "b": 99, "B": 99}
        with self.assertRaises(NoRow):
            cheapest(program, dear, "a" * 200 + "c")
        with self.assertRaises(TooLong):
            cheapest(program, dear, "a" * 200)
