"""Points 2.1 and 2.2: statements, blocks and programs."""

import copy
import unittest

from runsback.effects import lot_of
from runsback.errors import BadProgram
from runsback.flows import flow
from runsback.programs import Program
from tests.samples import chance_programs, odd_integers, odd_strings, odd_things


def nested_block(word, depth):
    """A block with blocks of loops, undos or choices in it, so that they stand so deep."""
    block = (("do", "a"),)
    for _ in range(depth - 1):
        block = ((word, (block,) if word in ("either", "other") else block),)
    return block


class ProgramsTest(unittest.TestCase):
    def assertBad(self, part, deeds, parts, body):
        with self.assertRaises(BadProgram) as caught:
            Program(deeds, parts, body)
        self.assertEqual(caught.exception.part, part)

    def assertBody(self, body, parts=None):
        told = {} if parts is None else parts
        self.assertEqual(Program("ab", told, body).body, body)
        self.assertEqual(Program("ab", {**told, "zz": body} if len(told) < 4 else told, body).body, body)

    def assertNoBody(self, body, parts=None):
        told = {} if parts is None else parts
        self.assertBad("body", "ab", told, body)
        self.assertBad("parts", "ab", {**told, "zz": body}, ())
        self.assertBad("body", "ab", told, (("loop", (("undo", body),)),))
        self.assertBad("body", "ab", told, (("either", ((), body)),))


class DeedsTest(ProgramsTest):
    def test_right(self):
        for deeds in ("a", "z", "ab", "bz", "abc", "abcd", "wxyz", "agmz"):
            self.assertEqual(Program(deeds, {}, ()).deeds, deeds)

    def test_wrong(self):
        wrong = ["", "abcde", "ba", "aa", "aba", "A", "aB", "a1", "ab ", ["a"], ("a",), {"a": 1}]
        for deeds in wrong + odd_things() + odd_integers() + odd_strings():
            self.assertBad("deeds", deeds, {}, ())

    def test_comes_first(self):
        self.assertBad("deeds", "ba", None, None)


class PartsTest(ProgramsTest):
    def test_names(self):
        for name in ("a", "z", "abcdefgh", "either", "do", "body"):
            self.assertEqual(Program("a", {name: ()}, (("part", name),)).parts, {name: ()})

    def test_wrong_names(self):
        for name in ["", "abcdefghi", "A", "aB", "a1", "a b", "a\n", 1, 0, True, None, b"a", ("a",), (), BadProgram]:
            self.assertBad("parts", "a", {name: ()}, ())
            self.assertBad("parts", "a", {"a": (), name: ()}, ())

    def test_many(self):
        four = {"a": (), "b": (), "c": (), "d": ()}
        self.assertEqual(Program("a", four, ()).parts, four)
        self.assertBad("parts", "a", {**four, "e": ()}, ())

    def test_wrong(self):
        for thing in odd_things() + odd_integers() + odd_strings() + ["", "a"]:
            if thing != {}:
                self.assertBad("parts", "a", thing, ())
            if thing != ():
                self.assertBad("parts", "a", {"a": thing}, ())

    def test_comes_before_body(self):
        self.assertBad("parts", "a", [], None)
        self.assertBad("parts", "a", {"a": [1]}, None)

    def test_names_that_are_no_part(self):
        self.assertBad("parts", "a", {"a": (("part", "b"),)}, ())
        self.assertBad("parts", "a", {"a": (("loop", (("either", ((), (("part", "b"),))),)),)}, ())
        self.assertBad("body", "a", {"a": ()}, (("part", "b"),))
        self.assertBad("body", "a", {}, (("undo", (("part", "b"),)),))

    def test_part_within_itself(self):
        def call(name):
            return (("part", name),)

        self.assertBad("parts", "a", {"a": call("a")}, ())
        for word in ("loop", "undo"):
            self.assertBad("parts", "a", {"a": ((word, call("a")),)}, ())
        for word in ("either", "other"):
            self.assertBad("parts", "a", {"a": ((word, ((), call("a"))),)}, ())
        self.assertBad("parts", "a", {"a": call("b"), "b": call("a")}, ())
        self.assertBad("parts", "a", {"a": call("b"), "b": call("c"), "c": call("d"), "d": call("a")}, ())
        self.assertBad("parts", "a", {"a": (), "b": call("c"), "c": call("d"), "d": call("b")}, ())
        self.assertBad("parts", "a", {"a": call("b"), "b": call("b")}, call("a"))

    def test_parts_that_name_others(self):
        parts = {"d": (("part", "c"), ("part", "b")), "c": (("part", "b"), ("part", "a")), "b": (("part", "a"),),
                 "a": (("do", "a"),)}
        self.assertEqual(Program("a", parts, (("part", "d"),)).parts, parts)

    def test_parts_that_nothing_names(self):
        self.assertEqual(Program("a", {"a": (("do", "A"),)}, ()).parts, {"a": (("do", "A"),)})


class BodyTest(ProgramsTest):
    def test_do(self):
        for row in ("", "a", "A", "bB", "a" * 12, "abABabABabAB"):
            self.assertBody((("do", row),))
        for row in ("a" * 13, "c", "abc", "C", "a b", "-", "1", None, 0, ["a"], ("a",), b"a", True):
            self.assertNoBody((("do", row),))

    def test_blocks_to_choose_from(self):
        for word in ("either", "other"):
            for many in range(1, 5):
                self.assertBody(((word, ((),) * many),))
            for inner in ((), ((),) * 5, [()], "", "a", None, 1, (((),),), ((), []), ((("do", "c"),),), {}, (None,)):
                self.assertNoBody(((word, inner),))

    def test_loop_and_undo(self):
        for word in ("loop", "undo"):
            self.assertBody(((word, ()),))
            self.assertBody(((word, (("do", "a"), ("do", "B"))),))
            for inner in ([], "", "a", None, 1, True, ((),), ("do", "a"), (("do", "c"),), ({},)):
                self.assertNoBody(((word, inner),))

    def test_part(self):
        parts = {"x": (("do", "a"),), "y": ()}
        self.assertBody((("part", "x"), ("part", "y")), parts)
        for inner in ("", "z", "X", None, 1, (), [], {}, ("x",), ["x"], b"x", (("do", "a"),)):
            self.assertNoBody((("part", inner),), parts)

    def test_words_that_are_none(self):
        for word in ("parts", "", "x", "Part", "name"):
            self.assertNoBody(((word, "x"),), {"x": ()})

    def test_forms(self):
        for statement in [(), ("do",), ("do", "a", "a"), ["do", "a"], "do", "da", None, 1, ("Do", "a"), ("", "a"),
                          (1, "a"), (None, ()), ("loops", ()), ((), ()), ([], []), (b"do", "a"), (True, "a"), {}]:
            self.assertNoBody((statement,))
            self.assertNoBody((("do", "a"), statement))

    def test_statements(self):
        self.assertBody((("do", "a"),) * 8)
        self.assertNoBody((("do", "a"),) * 9)
        self.assertBody((("loop", (("do", ""),) * 8),))
        self.assertNoBody((("loop", (("do", ""),) * 9),))

    def test_depth(self):
        for word in ("loop", "undo", "either", "other"):
            self.assertEqual(Program("a", {}, nested_block(word, 6)).body, nested_block(word, 6))
            self.assertEqual(Program("a", {"a": nested_block(word, 6)}, ()).parts, {"a": nested_block(word, 6)})
            self.assertBad("body", "a", {}, nested_block(word, 7))
            self.assertBad("parts", "a", {"a": nested_block(word, 7)}, ())
        empty = ()
        for _ in range(5):
            empty = (("loop", empty),)
        self.assertEqual(Program("a", {}, empty).body, empty)
        self.assertBad("body", "a", {}, (("loop", empty),))

    def test_depth_of_each_part_by_itself(self):
        deep = nested_block("loop", 6)
        calls = deep[:-1] + (("loop", (("loop", (("loop", (("part", "a"),)),)),)),)
        self.assertEqual(Program("a", {"a": deep}, calls).body, calls)

    def test_wrong(self):
        for thing in odd_things() + odd_integers() + odd_strings() + ["", "a"]:
            if thing != ():
                self.assertNoBody(thing)
            if thing != ("do", "a"):
                self.assertNoBody((thing,))


class SizeTest(ProgramsTest):
    def row_of_dos(self, letters):
        return tuple([("do", "a" * many) for many in letters])

    def test_places(self):
        sixty = self.row_of_dos([12, 12, 12, 12, 11])
        self.assertEqual(flow(Program("a", {}, sixty))[0], 60)
        self.assertBad("size", "a", {}, self.row_of_dos([12, 12, 12, 12, 12]))
        self.assertBad("size", "a", {}, sixty + (("do", ""),))

    def test_places_of_other_and_loop(self):
        dos = self.row_of_dos([12, 12, 12, 12])
        for last in (("other", ((),) * 4), ("loop", (("do", "a" * 4), ("do", "b")))):
            for more in range(8):
                body = dos + (last,) + (("do", "a" * more),)
                places = 2 + 5 + 44 + 5 + max(more - 1, 0)
                if places <= 60:
                    self.assertEqual(flow(Program("ab", {}, body))[0], places)
                else:
                    self.assertBad("size", "ab", {}, body)

    def test_arrows(self):
        four = (("either", ((("do", "a"),),) * 4),)
        sixteen = (("either", (four,) * 4),)
        sixty_four = (("either", (sixteen,) * 4),)
        body = sixty_four * 3 + four * 2
        self.assertEqual(len(flow(Program("a", {}, body))[1]), 200)
        self.assertBad("size", "a", {}, body + (("do", "a"),))
        self.assertBad("size", "a", {}, body + (("do", ""),))
        self.assertBad("size", "a", {}, body + (("undo", ()),))

    def block_of_arrows(self, many):
        """A block of choices with so many arrows."""
        if many == 1:
            return (("do", "a"),)
        choices = min(4, many)
        return (("either", tuple([self.block_of_arrows((many + at) // choices) for at in range(choices)])),)

    def test_arrows_of_each_statement(self):
        for last, arrows in [(("loop", ()), 3), (("loop", (("do", "aa"),)), 4), (("other", ((),)), 3),
                             (("other", ((), (("do", "aAa"),))), 7), (("other", ((),) * 4), 9), (("undo", ()), 1),
                             (("undo", (("loop", ()),)), 3), (("loop", (("do", ""),)), 3), (("do", "aa"), 2),
                             (("do", ""), 1), (("either", ((), ())), 2)]:
            body = self.block_of_arrows(200 - arrows) + (last,)
            self.assertEqual(len(flow(Program("a", {}, body))[1]), 200)
            self.assertBad("size", "a", {}, self.block_of_arrows(201 - arrows) + (last,))

    def test_arrows_by_parts(self):
        four = (("either", ((("do", "a"),),) * 4),)
        parts = {"b": four, "c": (("either", ((("part", "b"),),) * 4),), "d": (("part", "c"),) * 4}
        body = (("part", "d"), ("part", "d"), ("part", "d"), ("undo", (("part", "b"),)), ("part", "b"))
        self.assertEqual(len(flow(Program("a", parts, body))[1]), 200)
        self.assertBad("size", "a", parts, body + (("do", ""),))

    def test_very_many(self):
        def much(inner):
            block = (inner,) * 8
            return (("either", (block,) * 4),) * 8

        parts = {"a": much(("do", "a")), "b": much(("part", "a")), "c": much(("part", "b")), "d": much(("part", "c"))}
        for name in parts:
            self.assertBad("size", "a", parts, (("undo", (("part", name),)),))
        self.assertEqual(Program("a", parts, (("do", "a"),)).body, (("do", "a"),))

    def test_size_comes_last(self):
        long = (("do", "a" * 12),) * 8
        self.assertBad("size", "a", {}, long)
        self.assertBad("body", "a", {}, long[:7] + (("do", "b"),))
        self.assertBad("parts", "a", {"a": None}, long)

    def test_size_is_that_of_the_flow(self):
        for program in chance_programs(11, 100):
            many, arrows = flow(program)
            self.assertTrue(many <= 60 and len(arrows) <= 200)


class FieldsTest(ProgramsTest):
    def test_as_passed(self):
        parts = {"x": (("do", "a"),)}
        program = Program("ab", parts, (("part", "x"),))
        self.assertEqual((program.deeds, program.parts, program.body), ("ab", parts, (("part", "x"),)))

    def test_rows_stay_as_they_are(self):
        self.assertEqual(Program("ab", {}, (("do", "aAbB"),)).body, (("do", "aAbB"),))

    def test_parts_are_new_each_time(self):
        program = Program("a", {"x": ()}, ())
        self.assertIsNot(program.parts, program.parts)
        program.parts["y"] = ()
        program.parts.clear()
        self.assertEqual(program.parts, {"x": ()})

    def test_what_was_passed_may_be_changed(self):
        parts = {"x": ()}
        program = Program("a", parts, (("part", "x"),))
        parts["x"] = (("do", "a"),)
        parts["y"] = ()
        self.assertEqual(program.parts, {"x": ()})
        self.assertEqual(parts, {"x": (("do", "a"),), "y": ()})

    def test_arguments_are_not_changed(self):
        for parts in ({"x": ()}, {"x": [1]}, {1: 2}, {"x": (("part", "x"),)}):
            before = copy.deepcopy(parts)
            try:
                Program("a", parts, ())
            except BadProgram:
                pass
            self.assertEqual(parts, before)


class EqualityTest(ProgramsTest):
    def test_equal(self):
        one = Program("ab", {"x": (), "y": (("do", "a"),)}, (("part", "x"),))
        other = Program("ab", {"y": (("do", "a"),), "x": ()}, (("part", "x"),))
        self.assertTrue(one == other)
        self.assertFalse(one != other)
        self.assertTrue(one == one)

    def test_unlike(self):
        one = Program("ab", {"x": ()}, (("do", "a"),))
        for other in [Program("a", {"x": ()}, (("do", "a"),)), Program("abc", {"x": ()}, (("do", "a"),)),
                      Program("ab", {}, (("do", "a"),)), Program("ab", {"y": ()}, (("do", "a"),)),
                      Program("ab", {"x": (("do", ""),)}, (("do", "a"),)), Program("ab", {"x": ()}, (("do", "b"),)),
                      Program("ab", {"x": ()}, (("do", "aAa"),)), Program("ab", {"x": ()}, ())]:
            self.assertFalse(one == other)
            self.assertTrue(one != other)

    def test_other_things(self):
        one = Program("a", {}, (("do", "a"),))
        things = odd_things() + odd_integers() + odd_strings() + [one.body, ("a", {}, one.body), lot_of("a", ["a"])]
        for thing in things:
            self.assertFalse(one == thing)
            self.assertTrue(one != thing)
            self.assertFalse(thing == one)
