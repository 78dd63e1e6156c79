"""Points 2.3, 3.1 and 3.2: runs and plans."""

import random
import unittest

from runsback.errors import NoPlan, TooLong
from runsback.plans import is_plan, letters_of, net_of, row_of
from runsback.programs import Program
from tests.samples import chance_plan, chance_programs, odd_strings, odd_things, rows_of_block, slow_net, slow_row

A = (("do", "a"),)
UNDONE_A = (("do", "A"),)
LOOP = ("loop", A)
LOOP_BACK = ("loop", UNDONE_A)
GREAT = 10 ** 50


def of(*body, parts=None):
    return Program("ab", parts or {}, body)


def rounds(*times):
    """What a plan has for a loop with one do as its block."""
    return tuple([(((),), time) for time in times])


class IsPlanTest(unittest.TestCase):
    def assertPlans(self, program, right, wrong):
        for plan in right:
            self.assertIs(is_plan(program, plan), True)
        for thing in wrong:
            self.assertIs(is_plan(program, thing), False)
            for function in (letters_of, row_of, net_of):
                with self.assertRaises(NoPlan):
                    function(program, thing)

    def test_no_statements(self):
        self.assertPlans(of(), [()], [[], ((),), None, 0, "", {}, False])

    def test_do(self):
        program = of(("do", "a"))
        self.assertPlans(program, [((),)], [(), ((), ()), ([],), [()], ("",), (0,), (None,), ("a",), (((),),), ({},)])

    def test_dos(self):
        self.assertPlans(of(("do", "a"), ("do", "")), [((), ())], [((),), ((), (), ()), (), ((), []), [(), ()]])

    def test_either_and_other(self):
        for word in ("either", "other"):
            program = of((word, (A, (), (("do", "a"), ("do", "b")))))
            self.assertPlans(
                program,
                [((0, ((),)),), ((1, ()),), ((2, ((), ())),)],
                [((0, ()),), ((3, ()),), ((-1, ((), ())),), ((False, ((),)),), ((True, ()),), ((0, ((),), 0),), ((0,),),
                 (((),),), ([0, ((),)],), ((0, [()]),), (("0", ((),)),), ((None, ()),), ((2, ((),)),), (0, ((),)),
                 ((GREAT, ()),), ((-GREAT, ()),), ((((),), 0),)])

    def test_loop(self):
        self.assertPlans(
            of(LOOP),
            [((),), (rounds(1),), (rounds(5, GREAT, 1),), (rounds(1, 1),)],
            [(), ([],), (rounds(0),), (rounds(-1),), (rounds(True),), (rounds(False),), (rounds("1"),), (rounds(None),),
             (([((),), 1],),), ((((), 1),),), (((1, ((),)),),), ((((),),),), (((((),), 1, 1),),), (list(rounds(1)),),
             ((((((),)),),),), (((1, 1),),), ((None,),), (((),),), (rounds(1, 0),), (1,)])

    def test_part_and_undo(self):
        parts = {"x": A}
        for statement in (("part", "x"), ("undo", A), ("undo", (("part", "x"),))):
            inner = (((),),) if statement == ("undo", (("part", "x"),)) else ((),)
            self.assertPlans(of(statement, parts=parts), [(inner,)],
                             [(), ((),), ([()],), (((), ()),), ((0, ((),)),), (None,), (inner, inner)])

    def test_odd_things(self):
        program = of(("do", "a"), ("either", (A, ())), LOOP, ("undo", (LOOP,)))

        def plan_with(first=(), index=0, inner=((),), round_plan=((),), times=2, item=None, last=(rounds(3),)):
            return (first, (index, inner), ((round_plan, times),) if item is None else item, last)

        self.assertTrue(is_plan(program, plan_with()))
        for thing in odd_things() + [-1, -(10 ** 59)] + odd_strings():
            if thing not in ((), ((),), None):
                spoiled = [thing, (thing,) * 4, plan_with(thing), plan_with(index=thing), plan_with(inner=thing),
                           plan_with(round_plan=thing), plan_with(times=thing), plan_with(item=thing),
                           plan_with(last=thing), plan_with(last=(thing,))]
                for plan in spoiled:
                    self.assertIs(is_plan(program, plan), False)
        self.assertIs(is_plan(program, plan_with(index=1, inner=())), True)
        self.assertIs(is_plan(program, plan_with(item=())), True)
        self.assertIs(is_plan(program, plan_with(last=((),))), True)

    def test_deep(self):
        block = A
        for _ in range(5):
            block = (("loop", block),)
        parts = {"x": block}
        deeper = (("part", "x"),)
        for _ in range(5):
            deeper = (("loop", deeper),)
        program = of(*deeper, parts=parts)
        plan = ((),)
        for _ in range(5):
            plan = (((plan, GREAT),),)
        plan = (plan,)
        for _ in range(5):
            plan = (((plan, GREAT),),)
        self.assertIs(is_plan(program, plan), True)
        self.assertEqual(letters_of(program, plan), GREAT ** 10)
        for function in (row_of, net_of):
            with self.assertRaises(TooLong):
                function(program, plan)

    def test_by_chance(self):
        chance = random.Random(3)
        for program in chance_programs(3, 60):
            for _ in range(5):
                self.assertIs(is_plan(program, chance_plan(chance, program.parts, program.body)), True)


class RowsOfPlansTest(unittest.TestCase):
    def assertRow(self, program, plan, row):
        self.assertEqual(row_of(program, plan), row)
        self.assertEqual(letters_of(program, plan), len(row))
        self.assertEqual(net_of(program, plan), slow_net(row))

    def test_each_statement(self):
        parts = {"x": (("do", "ab"), ("do", "b"))}
        self.assertRow(of(), (), "")
        self.assertRow(of(("do", "abB")), ((),), "abB")
        self.assertRow(of(("either", (A, (("do", "bA"),)))), ((1, ((),)),), "bA")
        self.assertRow(of(("other", (A, (("do", "bA"),)))), ((0, ((),)),), "a")
        self.assertRow(of(("loop", (("do", "ab"),))), ((),), "")
        self.assertRow(of(("loop", (("do", "ab"),))), (rounds(2, 1),), "ababab")
        self.assertRow(of(("part", "x"), parts=parts), (((), ()),), "abb")
        self.assertRow(of(("undo", (("do", "abB"), ("do", "a")))), (((), ()),), "AbBA")

    def test_undos(self):
        parts = {"x": (("do", "ab"), ("loop", (("do", "b"),)))}
        self.assertRow(of(("undo", (("undo", (("do", "ab"),)),))), ((((),),),), "ab")
        self.assertRow(of(("undo", (("part", "x"),)), parts=parts), ((((), rounds(2)),),), "BBBA")
        self.assertRow(of(("undo", (("either", (A, (("do", "ab"),))), ("do", "b")))), (((1, ((),)), ()),), "BBA")
        self.assertRow(of(("undo", (("loop", (("do", "ab"), LOOP)),))),
                       ((((((), rounds(2)), 2), (((), ()), 1)),),),
                       "BA" + "AABA" * 2)

    def test_rounds_in_order(self):
        program = of(("loop", (("either", (A, (("do", "b"),))),)))
        plan = (((((0, ((),)),), 2), (((1, ((),)),), 1), (((0, ((),)),), 1)),)
        self.assertRow(program, plan, "aaba")

    def test_by_chance(self):
        chance = random.Random(4)
        for program in chance_programs(4, 80):
            for _ in range(4):
                plan = chance_plan(chance, program.parts, program.body)
                row = slow_row(program.parts, program.body, plan)
                if len(row) <= 5000:
                    self.assertRow(program, plan, row)

    def test_rows_are_those_of_runs(self):
        chance = random.Random(8)
        for program in chance_programs(8, 60):
            rows = rows_of_block(program.parts, program.body, 2) if "loop" not in str(program.body) else None
            if rows is not None and "loop" not in str(program.parts):
                for _ in range(5):
                    self.assertIn(row_of(program, chance_plan(chance, program.parts, program.body)), rows)

    def test_great_times(self):
        self.assertEqual(letters_of(of(("loop", (("do", "aab"),))), (rounds(GREAT, 1),)), 3 * GREAT + 3)
        nested = of(("loop", (LOOP, ("do", "bb"))))
        self.assertEqual(letters_of(nested, ((((rounds(GREAT), ()), GREAT),),)), (GREAT + 2) * GREAT)
        self.assertEqual(letters_of(of(("undo", (LOOP,))), ((rounds(GREAT),),)), GREAT)

    def test_great_times_of_nothing(self):
        empty = of(("loop", (("do", ""),)))
        self.assertEqual(letters_of(empty, (rounds(GREAT),)), 0)
        self.assertEqual(row_of(empty, (rounds(GREAT, GREAT),)), "")
        self.assertEqual(net_of(empty, (rounds(GREAT),)), "")
        no_rounds = of(("loop", (LOOP,)))
        self.assertEqual(row_of(no_rounds, (((((),), GREAT),),)), "")
        falls_away = of(("loop", (("do", "abBA"),)))
        self.assertEqual(net_of(falls_away, (rounds(GREAT),)), "")
        with self.assertRaises(TooLong):
            row_of(falls_away, (rounds(GREAT),))

    def test_same_plan_again(self):
        plan = (rounds(3),)
        self.assertEqual([row_of(of(LOOP), plan), row_of(of(LOOP), plan)], ["aaa", "aaa"])
        self.assertEqual(plan, (rounds(3),))


class TooLongTest(unittest.TestCase):
    def assertTooLong(self, function, program, plan):
        with self.assertRaises(TooLong) as caught:
            function(program, plan)
        self.assertEqual(caught.exception.most, 5000)

    def test_row(self):
        self.assertEqual(row_of(of(LOOP), (rounds(5000),)), "a" * 5000)
        self.assertTooLong(row_of, of(LOOP), (rounds(5001),))
        program = of(LOOP, LOOP_BACK)
        self.assertEqual(row_of(program, (rounds(2500), rounds(2500))), "a" * 2500 + "A" * 2500)
        self.assertTooLong(row_of, program, (rounds(2500), rounds(2501)))
        self.assertTooLong(row_of, program, (rounds(GREAT), ()))

    def test_row_with_more_letters_than_the_net(self):
        program = of(LOOP, LOOP_BACK)
        self.assertEqual(net_of(program, (rounds(5000), rounds(5000))), "")
        self.assertTooLong(row_of, program, (rounds(5000), rounds(5000)))

    def test_net_of_the_whole(self):
        program = of(LOOP, LOOP)
        self.assertEqual(net_of(program, (rounds(2500), rounds(2500))), "a" * 5000)
        self.assertTooLong(net_of, program, (rounds(2500), rounds(2501)))

    def test_net_of_a_pair(self):
        program = of(LOOP, LOOP_BACK)
        self.assertEqual(net_of(program, (rounds(5000), rounds(4999))), "a")
        self.assertTooLong(net_of, program, (rounds(5001), rounds(5001)))
        self.assertTooLong(net_of, program, (rounds(1), rounds(5001)))
        self.assertTooLong(net_of, program, (rounds(GREAT), rounds(GREAT)))
        turned = of(("loop", (("do", "baB"),)))
        self.assertEqual(net_of(turned, (rounds(4998),)), "b" + "a" * 4998 + "B")
        self.assertTooLong(net_of, turned, (rounds(4999),))
        there_and_back = of(("loop", (("do", "baB"),)), ("loop", (("do", "bAB"),)))
        self.assertEqual(net_of(there_and_back, (rounds(4998), rounds(4998))), "")
        self.assertTooLong(net_of, there_and_back, (rounds(4999), rounds(4999)))

    def test_pairs_together_do_not_count(self):
        program = of(LOOP, LOOP_BACK)
        self.assertEqual(net_of(program, (rounds(5000, 5000, 1), rounds(5000, 5000))), "a")

    def test_statements_together_do_not_count(self):
        program = of(LOOP, LOOP, LOOP_BACK, LOOP_BACK)
        self.assertEqual(net_of(program, (rounds(5000),) * 4), "")

    def test_net_of_a_round(self):
        program = of(("loop", (LOOP, LOOP)), ("loop", (LOOP_BACK, LOOP_BACK)))
        right = (((rounds(2500), rounds(2500)), 1),)
        self.assertEqual(net_of(program, (right, right)), "")
        wrong = (((rounds(2500), rounds(2501)), 1),)
        self.assertTooLong(net_of, program, (wrong, wrong))
        shorter = of(("loop", (LOOP, LOOP_BACK)))
        self.assertEqual(net_of(shorter, ((((rounds(5000), rounds(5000)), GREAT),),)), "")
        self.assertTooLong(net_of, shorter, ((((rounds(5000), rounds(4999)), 5001),),))

    def test_net_of_a_block(self):
        there = (LOOP, LOOP)
        back = (LOOP_BACK, LOOP_BACK)
        parts = {"x": there, "y": back}
        for one, other, wrap in [(("either", (there,)), ("either", (back,)), lambda plan: (0, plan)),
                                 (("other", ((), there)), ("other", ((), back)), lambda plan: (1, plan)),
                                 (("part", "x"), ("part", "y"), lambda plan: plan),
                                 (("undo", there), ("undo", back), lambda plan: plan),
                                 (("part", "x"), ("undo", there), lambda plan: plan)]:
            program = of(one, other, parts=parts)
            right = wrap((rounds(2500), rounds(2500)))
            self.assertEqual(net_of(program, (right, right)), "")
            wrong = wrap((rounds(2500), rounds(2501)))
            self.assertTooLong(net_of, program, (wrong, wrong))

    def test_no_plan_comes_first(self):
        for function in (row_of, net_of):
            with self.assertRaises(NoPlan):
                function(of(LOOP, LOOP), (rounds(GREAT), None))
