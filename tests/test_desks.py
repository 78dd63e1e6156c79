"""Points 19.1 and 19.2: desks."""

import copy
import unittest

from runsback.desks import Desk
from runsback.effects import effects, first, many
from runsback.errors import (BadProgram, BadText, BadWorld, NoLine, NoName, NoRow, NoStanding, NothingDone, OtherDeeds, RunsError, TooDeep,
                             TooLarge, TooMany)
from runsback.programs import Program
from runsback.texts import program_text, world_text
from runsback.worlds import World
from tests.samples import chain_and_choices, odd_integers, odd_things
from tests.test_rings import A, B, DEEP, FOUR, P, THREE, loop_of, of

Q = of(("either", ((A,), (("do", "B"),))))
W = World("ab", {"a": (1, 2, 0), "b": (0, 1, 2)})


def word(program):
    return program_text(program).replace("\n", "|")


def world_word(world):
    return world_text(world).replace("\n", "|")


class DeskTest(unittest.TestCase):
    def setUp(self):
        self.desk = Desk()
        self.assertEqual(self.desk.tell("program p " + word(P)), "ok")
        self.assertEqual(self.desk.tell("program q " + word(Q)), "ok")
        self.assertEqual(self.desk.tell("world w " + world_word(W)), "ok")

    def assertAnswer(self, line, answer):
        found = self.desk.tell(line)
        self.assertEqual((type(found), found), (str, answer), line)

    def assertError(self, error, line, /, **fields):
        before = self.state()
        with self.assertRaises(error, msg=line) as caught:
            self.desk.tell(line)
        self.assertIs(type(caught.exception), error)
        self.assertEqual(vars(caught.exception), fields)
        self.assertEqual(self.state(), before)

    def state(self):
        """All that the desk keeps."""
        return (self.desk.tell("names"), self.desk.undoable(), {name: copy.copy(kept) for name, kept in vars(self.desk).items()})

    def test_plain(self):
        self.assertAnswer("names", "p q")
        self.assertAnswer("effect p BAB", "no")
        self.assertAnswer("effect p aba", "yes")
        self.assertAnswer("sure p BAB", "yes")
        self.assertAnswer("sure p A", "no")
        self.assertAnswer("sums p BAB", "yes")
        self.assertAnswer("sums p A", "no")
        self.assertAnswer("within q p", "yes")
        self.assertAnswer("within p q", "no")
        self.assertAnswer("finite q p", "yes")
        self.assertAnswer("finite p q", "no")
        self.assertAnswer("first p", "a")
        self.assertAnswer("many p", "endless")
        self.assertAnswer("many q", "2")
        self.assertAnswer("reached w p 0", "0 1 2")
        self.assertAnswer("reached w q 1", "1 2")

    def test_unlike_questions(self):
        one, other = of(("loop", (A,)), ("loop", (B,))), of(("loop", (("do", "A"),)), ("loop", (B,)))
        self.desk.tell("program one " + word(one))
        self.desk.tell("program two " + word(other))
        self.assertAnswer("within one two", "no")
        self.assertAnswer("finite one two", "yes")
        self.assertAnswer("effect one aB", "no")
        self.assertAnswer("sure one aB", "yes")
        self.assertAnswer("sure one ba", "no")
        self.assertAnswer("sums one ba", "yes")
        self.assertAnswer("effect one ba", "no")

    def test_the_empty_row(self):
        self.desk.tell("program e " + word(of()))
        self.assertAnswer("first e", "-")
        self.assertAnswer("many e", "1")
        for question in ("effect", "sure", "sums"):
            self.assertAnswer(question + " e -", "yes")
            self.assertAnswer(question + " e aA", "yes")
            self.assertAnswer(question + " e a", "no")
            self.assertAnswer(question + " p -", "no")

    def test_an_empty_desk(self):
        self.desk = Desk()
        self.assertAnswer("names", "none")
        self.assertEqual(self.desk.undoable(), 0)
        self.assertError(NothingDone, "undo")
        self.assertError(NoName, "drop p", name="p")
        self.assertError(NoName, "first p", name="p")

    def test_an_elder_one(self):
        self.assertAnswer("program p " + word(of(B)), "ok")
        self.assertAnswer("first p", "b")
        self.assertAnswer("names", "p q")
        self.assertAnswer("world w " + world_word(World("ab", {"a": (0,), "b": (0,)})), "ok")
        self.assertAnswer("reached w p 0", "0")
        self.assertAnswer("undo", "ok")
        self.assertAnswer("reached w p 2", "2")
        self.assertAnswer("undo", "ok")
        self.assertAnswer("first p", "a")
        self.assertEqual(self.desk.undoable(), 3)

    def test_programs_and_worlds_apart(self):
        self.desk.tell("world p " + world_word(World("ab", {"a": (1, 0), "b": (0, 1)})))
        self.assertAnswer("reached p p 0", "0 1")
        self.assertAnswer("names", "p q")
        self.assertError(NoName, "first w", name="w")
        self.assertError(NoName, "reached q p 0", name="q")
        self.desk.tell("program w " + word(of(("do", "aa"))))
        self.assertAnswer("reached w w 0", "2")
        self.assertAnswer("names", "p q w")

    def test_drop(self):
        self.assertAnswer("drop q", "ok")
        self.assertAnswer("names", "p")
        self.assertAnswer("drop w", "ok")
        self.assertError(NoName, "reached w p 0", name="w")
        self.assertError(NoName, "drop w", name="w")
        self.assertAnswer("undo", "ok")
        self.assertAnswer("reached w p 0", "0 1 2")
        self.desk.tell("world p " + world_word(World("ab", {"a": (1, 0), "b": (0, 1)})))
        self.assertAnswer("drop p", "ok")
        self.assertError(NoName, "first p", name="p")
        self.assertError(NoName, "reached p p 0", name="p")
        self.assertAnswer("names", "none")
        self.assertEqual(self.desk.undoable(), 6)
        self.assertAnswer("undo", "ok")
        self.assertAnswer("reached p p 1", "0 1")
        self.assertAnswer("undo", "ok")
        self.assertError(NoName, "reached p p 1", name="p")
        self.assertAnswer("first p", "a")

    def test_undo(self):
        self.assertEqual(self.desk.undoable(), 3)
        self.desk.tell("drop p")
        self.desk.tell("program p " + word(Q))
        self.assertEqual(self.desk.undoable(), 5)
        self.assertAnswer("within p q", "yes")
        self.assertAnswer("undo", "ok")
        self.assertAnswer("names", "q")
        self.assertAnswer("undo", "ok")
        self.assertAnswer("within p q", "no")
        self.assertAnswer("undo", "ok")
        self.assertError(NoName, "reached w p 0", name="w")
        self.assertAnswer("undo", "ok")
        self.assertAnswer("names", "p")
        self.assertAnswer("undo", "ok")
        self.assertAnswer("names", "none")
        for _ in range(2):
            self.assertError(NothingDone, "undo")
        self.assertAnswer("program z " + word(P), "ok")
        self.assertEqual((type(self.desk.undoable()), self.desk.undoable()), (int, 1))
        self.assertAnswer("undo", "ok")
        self.assertAnswer("names", "none")

    def test_asking_is_not_taken_back(self):
        for line in ["names", "first p", "many p", "effect p a", "reached w p 0", "within p q", "finite p q", "sure p a", "sums p a"]:
            self.desk.tell(line)
            self.assertEqual(self.desk.undoable(), 3)
        self.assertAnswer("undo", "ok")
        self.assertError(NoName, "reached w p 0", name="w")
        self.assertAnswer("names", "p q")

    def test_what_raised_is_not_taken_back(self):
        for line in ["program p x", "program q deeds ba|body|end|", "world w x", "world w world a|a 1|", "drop x", "first x", "bad"]:
            with self.assertRaises(RunsError):
                self.desk.tell(line)
        self.assertEqual(self.desk.undoable(), 3)
        self.assertAnswer("undo", "ok")
        self.assertAnswer("names", "p q")
        self.assertEqual(self.desk.undoable(), 2)

    def test_names(self):
        for name in ["abcdefgh", "a", "zzz", "program", "names", "undo", "none", "world", "ok"]:
            self.assertAnswer("program %s %s" % (name, word(Q)), "ok")
            self.assertAnswer("world %s %s" % (name, world_word(W)), "ok")
            self.assertAnswer("many " + name, "2")
            self.assertAnswer("reached %s %s 2" % (name, name), "0 2")
        self.assertAnswer("names", "a abcdefgh names none ok p program q undo world zzz")
        for name in ["abcdefghi", "A", "a1", "", "-", "a-", "\u00e4", "aB", "1", "p|", "*"]:
            for line in ["program %s " + word(P), "world %s " + world_word(W), "drop %s", "first %s", "many %s", "effect %s a", "sure %s a",
                         "sums %s -", "within %s p", "within p %s", "finite %s p", "finite p %s", "reached %s p 0", "reached w %s 0"]:
                self.assertError(NoLine, line % name)

    def test_what_is_no_string(self):
        for thing in odd_things() + odd_integers():
            self.assertError(NoLine, thing)

    def test_no_lines(self):
        for line in ["", " ", "names ", " names", "names p", "Names", "name", "drop", "drop ", "drop p q", "drop  p", "drop p ", " drop p",
                     "undo ", "undo p", "undo 1", "first", "first ", "first p q", "first  p", "first p ", "many", "many p p", "many  p",
                     "effect", "effect p", "effect p ", "effect p a b", "effect  p a", "effect p  a", "effect p a ", "effect p a1", "effect p --",
                     "effect p -a", "effect p \u00e4", "effect p a|", "sure p", "sure p a b", "sure p ", "sums p", "sums p 1", "sums p a a",
                     "within p", "within p q p", "within p  q", "within p q ", "finite p", "finite", "finite p q q", "reached w p",
                     "reached w p ", "reached w p 0 1", "reached w  p 0", "reached w p  0", "reached w p 0 ", "reached w p a", "reached w 0 p",
                     "program", "program ", "program p", "program p ", "program  p " + word(P), " program p " + word(P), "program" + word(P),
                     "world", "world w", "world w ", "world  w " + world_word(W), "Program p " + word(P), "help", "quit", "-", "|",
                     "effect\tp a", "names\t", "names\r", "undo\x0c"]:
            self.assertError(NoLine, line)

    def test_line_feeds(self):
        for line in ["names\n", "\nnames", "\n", "first\np", "first p\n", "program p " + program_text(P), "program x " + word(P) + "\n",
                     "program x\n" + word(P), "world x " + world_text(W), "undo\nundo"]:
            self.assertError(NoLine, line)

    def test_standings(self):
        self.assertAnswer("reached w q 0", "0 1")
        for standing in ["00", "01", "+1", "-0", "-1", "1.0", "0x1", "1_0", "1000000000", "0123456789", "\u0661", "\u00b2", "", "true"]:
            self.assertError(NoLine, "reached w p " + standing)
        for standing in ["3", "4", "24", "999999999", "100000000"]:
            self.assertError(NoStanding, "reached w p " + standing)

    def test_texts(self):
        self.assertError(BadText, "program p x", line=1)
        self.assertError(BadText, "program p |", line=1)
        self.assertError(BadText, "program p deeds ab|body|end", line=3)
        self.assertError(BadText, "program p deeds ab|body|end|x", line=4)
        self.assertError(BadText, "program p deeds ab|body||end|", line=3)
        self.assertError(BadText, "program p  deeds ab|body|end|", line=1)
        self.assertError(BadText, "program p deeds ab|body|end| ", line=4)
        self.assertError(BadText, "world w x", line=1)
        self.assertError(BadText, "world w world a|a|", line=2)
        self.assertError(BadText, "world w world a|a 0", line=2)
        self.assertError(BadText, "world w " + word(P), line=1)
        self.assertError(BadText, "program p " + world_word(W), line=1)
        self.assertError(BadProgram, "program p deeds ba|body|end|", part="deeds")
        self.assertError(BadProgram, "program p deeds a|body|do b|end|", part="body")
        self.assertError(BadProgram, "program p deeds a|name x|part x|end|body|end|", part="parts")
        self.assertError(BadWorld, "world w world a|a 1|", part="moves")
        self.assertError(BadWorld, "world w world ba|b 0|a 0|", part="deeds")
        # New names are right ones here, so that what the text lacks is told.
        self.assertError(BadText, "program new x", line=1)
        self.assertError(BadWorld, "world new world a|a 0 0|", part="moves")

    def test_no_names(self):
        for line, name in [("drop x", "x"), ("effect x a", "x"), ("effect x c", "x"), ("sure x a", "x"), ("sums x -", "x"), ("within x y", "x"),
                           ("within p y", "y"), ("within x q", "x"), ("finite x y", "x"), ("finite q y", "y"), ("first x", "x"),
                           ("many x", "x"), ("reached x y 0", "x"), ("reached w y 0", "y"), ("reached x p 0", "x"), ("reached p w 0", "p"),
                           ("reached w w 9", "w"), ("first w", "w"), ("within w p", "w")]:
            self.assertError(NoName, line, name=name)

    def test_what_functions_raise(self):
        self.desk.tell("program c " + word(of(deeds="abc")))
        self.desk.tell("program many " + word(of(FOUR, FOUR, FOUR, DEEP)))
        self.desk.tell("program deep " + word(of(*THREE)))
        self.desk.tell("program large " + word(chain_and_choices(45)))
        for question in ("effect", "sure", "sums"):
            self.assertError(NoRow, question + " p c")
            self.assertError(NoRow, question + " p aC")
        for line in ["within p c", "within c p", "finite p c", "finite c p", "reached w c 0", "reached w c 9"]:
            self.assertError(OtherDeeds, line)
        for line in ["sure many a", "sums many a", "finite p many"]:
            self.assertError(TooMany, line, most=32)
        for line in ["sure deep a", "finite p deep"]:
            self.assertError(TooDeep, line, most=2)
        self.assertAnswer("sums deep bbb", "yes")
        with self.assertRaises(TooLarge) as caught:
            self.desk.tell("effect large zz")
        self.assertEqual(caught.exception.most, 300)
        self.assertEqual(self.desk.undoable(), 7)

    def test_numbers(self):
        self.desk.tell("program many " + word(of(FOUR, FOUR, FOUR, FOUR, FOUR)))
        self.assertAnswer("many many", str(many(effects(of(*[FOUR] * 5)))))
        self.assertAnswer("first many", first(effects(of(*[FOUR] * 5))) or "-")

    def test_desks_apart(self):
        other = Desk()
        self.assertEqual(other.tell("names"), "none")
        self.assertEqual((other.undoable(), self.desk.undoable()), (0, 3))
        other.tell("program p " + word(Program("z", {}, (("do", "zz"),))))
        self.assertAnswer("first p", "a")
        self.assertEqual(other.tell("first p"), "zz")

    def test_programs_of_each_kind(self):
        parts = {"x": (A, ("loop", (B,))), "y": (("part", "x"), ("undo", (("part", "x"),)))}
        program = of(("other", ((("part", "y"),), (("do", ""),))), ("either", ((), (loop_of("ab", ""),))), parts=parts)
        self.assertAnswer("program k " + word(program), "ok")
        self.desk.tell("program l " + word(of(("part", "y"), ("either", ((), (loop_of("ab", ""),))), parts=parts)))
        self.assertAnswer("within l k", "yes")
        self.assertAnswer("within k l", "yes")
        self.assertAnswer("first k", "-")
