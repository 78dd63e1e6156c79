"""Points 4.1 and 4.2: flows and detours."""

import unittest

from runsback.errors import BadProgram
from runsback.flows import detours, flow
from runsback.programs import Program
from tests.samples import chance_programs, rows_of_block, slow_detours

P = Program("ab", {}, (("loop", (("do", "ab"),)), ("do", "B")))
A = (("do", "a"),)
B = (("do", "b"),)


def flow_of(*body, parts=None):
    return flow(Program("abc", parts or {}, body))


def rows_along(many, arrows, most):
    """The set of the rows along arrows from 0 to 1 with at most so many letters."""
    found = {("", 0)}
    waiting = list(found)
    while waiting:
        row, place = waiting.pop()
        for start, letter, goal in arrows:
            pair = (row + letter, goal)
            if start == place and len(row + letter) <= most and pair not in found:
                found.add(pair)
                waiting.append(pair)
    return {row for row, place in found if place == 1}


class FlowTest(unittest.TestCase):
    def test_example(self):
        self.assertEqual(flow(P), (5, [(0, "", 3), (3, "a", 4), (4, "b", 3), (3, "", 2), (2, "B", 1)]))

    def test_blocks(self):
        self.assertEqual(flow_of(), (2, [(0, "", 1)]))
        self.assertEqual(flow_of(("do", "a"), ("do", "b"), ("do", "c")),
                         (4, [(0, "a", 2), (2, "b", 3), (3, "c", 1)]))

    def test_do(self):
        self.assertEqual(flow_of(("do", "")), (2, [(0, "", 1)]))
        self.assertEqual(flow_of(("do", "a")), (2, [(0, "a", 1)]))
        self.assertEqual(flow_of(("do", "aBA")), (4, [(0, "a", 2), (2, "B", 3), (3, "A", 1)]))
        self.assertEqual(flow_of(("do", "aA")), (3, [(0, "a", 2), (2, "A", 1)]))
        self.assertEqual(flow_of(("do", "ab"), ("do", ""), ("do", "bc")),
                         (6, [(0, "a", 4), (4, "b", 2), (2, "", 3), (3, "b", 5), (5, "c", 1)]))

    def test_either(self):
        self.assertEqual(flow_of(("either", ((),))), (2, [(0, "", 1)]))
        self.assertEqual(flow_of(("either", (A, (), (("do", "ab"),), A))),
                         (3, [(0, "a", 1), (0, "", 1), (0, "a", 2), (2, "b", 1), (0, "a", 1)]))
        self.assertEqual(flow_of(("either", (A, A)), ("either", (B, B))),
                         (3, [(0, "a", 2), (0, "a", 2), (2, "b", 1), (2, "b", 1)]))

    def test_other(self):
        self.assertEqual(flow_of(("other", ((),))), (4, [(0, "", 2), (2, "", 3), (3, "", 1)]))
        self.assertEqual(flow_of(("other", (A, (("do", "bc"),), ()))),
                         (7, [(0, "", 2), (2, "", 3), (3, "a", 1), (2, "", 4), (4, "b", 5), (5, "c", 1), (2, "", 6),
                              (6, "", 1)]))

    def test_loop(self):
        self.assertEqual(flow_of(("loop", ())), (3, [(0, "", 2), (2, "", 2), (2, "", 1)]))
        self.assertEqual(flow_of(("loop", A)), (3, [(0, "", 2), (2, "a", 2), (2, "", 1)]))
        self.assertEqual(flow_of(("loop", (("loop", A), ("do", "b")))),
                         (5, [(0, "", 2), (2, "", 4), (4, "a", 4), (4, "", 3), (3, "b", 2), (2, "", 1)]))

    def test_part(self):
        parts = {"x": (("do", "ab"),), "y": (("part", "x"), ("part", "x")), "z": ()}
        self.assertEqual(flow_of(("part", "x"), parts=parts), flow_of(("do", "ab")))
        self.assertEqual(flow_of(("part", "y"), parts=parts), flow_of(("do", "ab"), ("do", "ab")))
        self.assertEqual(flow_of(("part", "z"), parts=parts), (2, [(0, "", 1)]))
        self.assertEqual(flow_of(("do", "c"), ("part", "y"), parts=parts),
                         (6, [(0, "c", 2), (2, "a", 4), (4, "b", 3), (3, "a", 5), (5, "b", 1)]))

    def test_undo(self):
        self.assertEqual(flow_of(("undo", ())), (2, [(0, "", 1)]))
        self.assertEqual(flow_of(("undo", (("do", "abC"), ("do", ""), ("do", "bB")))),
                         flow_of(("do", "bB"), ("do", ""), ("do", "cBA")))
        self.assertEqual(flow_of(("undo", (("either", (A, (("do", "bc"), ("do", "a")))), ("do", "c")))),
                         flow_of(("do", "C"), ("either", ((("do", "A"),), (("do", "A"), ("do", "CB"))))))
        self.assertEqual(flow_of(("undo", (("loop", (("do", "ab"), ("do", "c"))), ("do", "a")))),
                         flow_of(("do", "A"), ("loop", (("do", "C"), ("do", "BA")))))

    def test_other_in_an_undo(self):
        self.assertEqual(flow_of(("undo", (("other", (A, (("do", "bc"),))), ("do", "c")))),
                         (7, [(0, "C", 2), (2, "", 3), (3, "", 4), (4, "A", 1), (3, "", 5), (5, "C", 6), (6, "B", 1)]))

    def test_undo_of_an_undo(self):
        inner = (("do", "ab"), ("other", (A, ())), ("loop", B))
        self.assertEqual(flow_of(("undo", (("undo", inner),))), flow_of(("either", (inner,))))
        self.assertEqual(flow_of(("undo", (("do", "c"), ("undo", inner)))),
                         flow_of(("either", (inner,)), ("do", "C")))
        self.assertEqual(flow_of(("undo", (("undo", (("undo", (("do", "ab"),)),)),))), flow_of(("do", "BA")))
        self.assertEqual(flow_of(("undo", (("loop", (("undo", (("do", "ab"), ("do", "c"))),)),))),
                         flow_of(("loop", (("do", "ab"), ("do", "c")))))

    def test_undo_of_a_part(self):
        parts = {"x": (("do", "ab"), ("do", "c")), "y": (("part", "x"), ("undo", (("part", "x"),)), ("do", "a"))}
        self.assertEqual(flow_of(("undo", (("part", "x"),)), parts=parts), flow_of(("do", "C"), ("do", "BA")))
        self.assertEqual(flow_of(("undo", (("part", "y"),)), parts=parts),
                         flow_of(("do", "A"), ("either", ((("do", "ab"), ("do", "c")),)),
                                 ("either", ((("do", "C"), ("do", "BA")),))))
        self.assertEqual(flow_of(("undo", (("undo", (("part", "y"),)),)), parts=parts), flow_of(("part", "y"), parts=parts))

    def test_all_together(self):
        body = (("other", ((("undo", (("loop", (("do", "ab"),)), ("part", "x"))),), A)), ("do", ""))
        self.assertEqual(flow_of(*body, parts={"x": (("either", (A, B)),)}),
                         (9, [(0, "", 3), (3, "", 4), (4, "A", 5), (4, "B", 5), (5, "", 6), (6, "B", 7), (7, "A", 6),
                              (6, "", 2), (3, "", 8), (8, "a", 2), (2, "", 1)]))

    def test_new_each_time(self):
        flow(P)[1].clear()
        self.assertEqual(len(flow(P)[1]), 5)

    def test_bounds(self):
        rows = [("do", "abc" * 4)] * 4
        self.assertEqual(flow_of(*rows, ("do", "a" * 11))[0], 60)
        with self.assertRaises(BadProgram) as caught:
            flow_of(*rows, ("do", "a" * 12))
        self.assertEqual(caught.exception.part, "size")
        many = (("either", (A * 1, B, A, B)),)
        for _ in range(2):
            many = (("either", (many,) * 4),)
        eight = (("either", (A, B, A, B)), ("either", (A, B, A, B)))
        self.assertEqual(len(flow_of(*(many * 3 + eight))[1]), 200)
        with self.assertRaises(BadProgram) as caught:
            flow_of(*(many * 3 + eight + A))
        self.assertEqual(caught.exception.part, "size")

    def test_rows_along_arrows_are_those_of_runs(self):
        for program in chance_programs(21, 60):
            if "loop" not in str(program.body) + str(program.parts):
                many, arrows = flow(program)
                rows = rows_of_block(program.parts, program.body, 0)
                self.assertEqual(rows_along(many, arrows, 1000), rows)

    def test_rows_along_arrows_of_loops(self):
        for body in [(("loop", (("do", "ab"), ("either", (A, ())))),), (("undo", (("loop", (("do", "ab"),)), ("do", "b"))),),
                     (("loop", (("undo", (("do", "a"), ("loop", B))),)),)]:
            program = Program("ab", {}, body)
            many, arrows = flow(program)
            rows = {row for row in rows_of_block({}, body, 4) if len(row) <= 4}
            self.assertEqual(rows_along(many, arrows, 4), rows)


class DetoursTest(unittest.TestCase):
    def test_example(self):
        self.assertEqual(detours(P), [(0, 0), (0, 2), (0, 3), (1, 1), (2, 2), (3, 2), (3, 3), (4, 1), (4, 4)])

    def test_plain(self):
        self.assertEqual(detours(Program("a", {}, ())), [(0, 0), (0, 1), (1, 1)])
        self.assertEqual(detours(Program("a", {}, A)), [(0, 0), (1, 1)])
        self.assertEqual(detours(Program("a", {}, (("do", "aA"),))), [(0, 0), (0, 1), (1, 1), (2, 2)])
        self.assertEqual(detours(Program("a", {}, (("do", "Aa"),))), [(0, 0), (0, 1), (1, 1), (2, 2)])
        self.assertEqual(detours(Program("a", {}, (("do", "aa"),))), [(0, 0), (1, 1), (2, 2)])
        self.assertEqual(detours(Program("ab", {}, (("do", "abBA"),))),
                         [(0, 0), (0, 1), (1, 1), (2, 2), (2, 4), (3, 3), (4, 4)])
        self.assertEqual(detours(Program("a", {}, (("do", "aAaA"),))),
                         [(0, 0), (0, 1), (0, 3), (1, 1), (2, 2), (2, 4), (3, 1), (3, 3), (4, 4)])

    def test_by_loops(self):
        program = Program("a", {}, (("loop", (("do", "aa"),)), ("loop", (("do", "AAA"),))))
        many, arrows = flow(program)
        self.assertEqual(detours(program), sorted(slow_detours(many, arrows)))

    def test_by_chance(self):
        for program in chance_programs(22, 120):
            many, arrows = flow(program)
            self.assertEqual(detours(program), sorted(slow_detours(many, arrows)))

    def test_new_each_time(self):
        detours(P).clear()
        self.assertEqual(len(detours(P)), 9)
