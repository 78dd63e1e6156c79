"""Points 17.1 and 17.2: texts of programs and worlds, written and read."""

import random
import unittest

from runsback.errors import BadProgram, BadText, BadWorld
from runsback.homes import home
from runsback.programs import Program
from runsback.reading import read_program, read_world
from runsback.texts import program_text, world_text
from runsback.worlds import World, beside
from tests.samples import chance_programs, chance_world, odd_integers, odd_things
from tests.test_rings import P, THREE, of

A, B = ("do", "a"), ("do", "b")
OTHER_BREAKS = ["\r", "\r\n", "\x0b", "\x0c", "\x1c", "\x1d", "\x1e", "\x85", "\u2028", "\u2029"]
# Each kind of statement, and an empty block of each; a line for each one, from line 1 on.
LINES = """deeds ab
name one
end
name two
do -
part one
end
body
do aB
either
or
do a
loop
end
end
other
do -
or
undo
part two
loop
do b
end
end
or
end
end""".split("\n")
TEXT = "".join([line + "\n" for line in LINES])
PROGRAM = Program("ab", {"two": (("do", ""), ("part", "one")), "one": ()},
                  (("do", "aB"), ("either", ((), (A, ("loop", ())))),
                   ("other", ((("do", ""),), (("undo", (("part", "two"), ("loop", (B,)))),), ()))))
WORLD_LINES = ["world ab", "a 1 2 0", "b 0 2 1"]
WORLD_TEXT = "world ab\na 1 2 0\nb 0 2 1\n"
W = World("ab", {"a": (1, 2, 0), "b": (0, 2, 1)})


def text_of(lines):
    return "".join([line + "\n" for line in lines])


def slow_text(program):
    """The text, put together word by word."""
    def of_block(block):
        return "".join([of_statement(*statement) for statement in block])

    def of_statement(word, inner):
        if word == "do":
            return "do %s\n" % (inner or "-")
        if word == "part":
            return "part %s\n" % inner
        if word in ("loop", "undo"):
            return "%s\n%send\n" % (word, of_block(inner))
        return "%s\n%send\n" % (word, "or\n".join([of_block(block) for block in inner]))

    parts = ["name %s\n%send\n" % (name, of_block(program.parts[name])) for name in sorted(program.parts)]
    return "deeds %s\n%sbody\n%send\n" % (program.deeds, "".join(parts), of_block(program.body))


class WritingTest(unittest.TestCase):
    def test_plain(self):
        self.assertEqual(program_text(P), "deeds ab\nbody\nloop\ndo ab\nend\ndo B\nend\n")
        self.assertEqual(program_text(of(deeds="z")), "deeds z\nbody\nend\n")
        self.assertEqual(program_text(PROGRAM), TEXT)
        self.assertEqual(program_text(of(("do", ""))), "deeds ab\nbody\ndo -\nend\n")

    def test_each_kind(self):
        for word in ("loop", "undo"):
            self.assertEqual(program_text(of((word, ()))), "deeds ab\nbody\n%s\nend\nend\n" % word)
            self.assertEqual(program_text(of((word, ((word, (A,)), B)))),
                             "deeds ab\nbody\n%s\n%s\ndo a\nend\ndo b\nend\nend\n" % (word, word))
        for word in ("either", "other"):
            self.assertEqual(program_text(of((word, ((),)))), "deeds ab\nbody\n%s\nend\nend\n" % word)
            self.assertEqual(program_text(of((word, ((), ())))), "deeds ab\nbody\n%s\nor\nend\nend\n" % word)
            self.assertEqual(program_text(of((word, ((A, B), (), ((word, ((B,),)),), (A,))))),
                             "deeds ab\nbody\n%s\ndo a\ndo b\nor\nor\n%s\ndo b\nend\nor\ndo a\nend\nend\n" % (word, word))

    def test_parts_ascend(self):
        names = ["b", "ab", "abcdefgh", "z"]
        expected = "deeds ab\nname ab\nend\nname abcdefgh\nend\nname b\nend\nname z\nend\nbody\nend\n"
        for turned in (names, names[::-1], sorted(names)):
            self.assertEqual(program_text(Program("ab", {name: () for name in turned}, ())), expected)

    def test_worlds(self):
        self.assertEqual(world_text(W), WORLD_TEXT)
        self.assertEqual(world_text(World("c", {"c": (0,)})), "world c\nc 0\n")
        self.assertEqual(world_text(World("cz", {"z": (1, 0), "c": (0, 1)})), "world cz\nc 0 1\nz 1 0\n")
        large = beside(chance_world(random.Random(1), "ab", 24), chance_world(random.Random(2), "ab", 24))
        for world in (large, home("ab", ["aabb"], ["ab" * 20, "ba"])):
            lines = world_text(world).split("\n")
            self.assertEqual([lines[0], lines[3:]], ["world ab", [""]])
            for deed, line in zip("ab", lines[1:]):
                self.assertEqual(line, deed + "".join([" %d" % s for s in world.moves[deed]]))
            self.assertRaises(BadWorld, read_world, world_text(world)) if world.size > 24 else None

    def test_by_chance(self):
        for program in chance_programs(211, 200):
            self.assertEqual(program_text(program), slow_text(program))
            self.assertEqual(read_program(program_text(program)), program)


class ReadingProgramsTest(unittest.TestCase):
    def assertBad(self, line, text):
        with self.assertRaises(BadText) as caught:
            read_program(text)
        self.assertEqual((type(caught.exception.line), caught.exception.line), (int, line), text)

    def spoil(self, at, *lines):
        """The text with these lines in the place of the line with the number at, from 1 on."""
        return text_of(LINES[:at - 1] + list(lines) + LINES[at:])

    def test_plain(self):
        self.assertEqual(read_program(TEXT), PROGRAM)
        self.assertEqual(read_program("deeds z\nbody\nend\n"), of(deeds="z"))
        self.assertEqual(read_program(program_text(P)), P)
        self.assertEqual(read_program(self.spoil(22, "do " + "aAbB" * 3)).body[2][1][1][0][1][1], ("loop", (("do", "aAbB" * 3),)))

    def test_what_is_no_string(self):
        for thing in odd_things() + odd_integers():
            self.assertBad(0, thing)
        self.assertBad(0, TEXT.encode())

    def test_what_is_lacking(self):
        self.assertBad(1, "")
        self.assertBad(2, "deeds ab\n")
        for many in range(len(LINES)):
            self.assertBad(many + 1, text_of(LINES[:many]))
            self.assertBad(many + 1, text_of(LINES[:many]) + LINES[many])
            self.assertBad(many + 1, text_of(LINES[:many]) + " ")
        self.assertBad(28, TEXT + "x")
        self.assertBad(28, TEXT + "end")
        self.assertBad(1, "deeds ab")
        self.assertBad(1, "x")

    def test_behind_the_end(self):
        for line in ["end", "", "body", "do a", "or", "deeds ab", "name z", "x", " "]:
            self.assertBad(28, TEXT + line + "\n")
            self.assertBad(28, TEXT + line + "\n" + "end\n" * 5 + "x")

    def test_wrong_lines(self):
        wrong = ["", " ", "x", "do", "do ", "do a ", "do  a", " do a", "do a b", "do a1", "do --", "do a-", "do \u00e4", "Do a", "do\ta", "doa",
                 "do a\t", "part", "part ", "part A", "part one two", "part  one", "part one ", "part -", "part on1", "loop ", "loop a", " loop",
                 "LOOP", "undo x", "undo ", "either ", "either a", "other ", "other a", "or ", "or a", " or", "end ", "end a", " end", "End",
                 "again", "body", "body ", "deeds ab", "name z", "name zz", "do a|", "do a\r"]
        for at in range(9, 27):
            for line in wrong:
                self.assertBad(at, self.spoil(at, line))
                self.assertBad(at, text_of(LINES[:at - 1] + [line]))
                self.assertBad(at, text_of(LINES[:at - 1] + [line] + ["x"] * 5))

    def test_the_first_line(self):
        for line in ["", "deeds", "deeds ", "deeds a b", "deeds  ab", " deeds ab", "deeds ab ", "deeds aB", "deeds A", "deeds -", "deeds a1",
                     "Deeds ab", "deed ab", "body", "end", "name one", "do a", "world ab", "deeds \u00e4"]:
            self.assertBad(1, self.spoil(1, line))
            self.assertBad(1, line + "\n")

    def test_outside_of_blocks(self):
        for at in (2, 4, 8):
            for line in ["", "or", "end", "do a", "do -", "loop", "undo", "either", "other", "part one", "deeds ab", "x", "name", "name ", "name A",
                         "name one two", "name  z", "name z ", "name -", "name z1", "body ", "body x", "Body", " body"]:
                self.assertBad(at, self.spoil(at, line))
                self.assertBad(at, text_of(LINES[:at - 1] + [line]))

    def test_names_must_ascend(self):
        def text(*names):
            return text_of(["deeds ab"] + [line for name in names for line in ("name " + name, "end")] + ["body", "end"])

        self.assertEqual(len(read_program(text("a", "ab", "b", "ba")).parts), 4)
        self.assertBad(4, text("a", "a"))
        self.assertBad(4, text("b", "a", "c"))
        self.assertBad(4, text("ab", "a"))
        self.assertBad(6, text("a", "c", "b", "d"))
        self.assertBad(6, text("a", "c", "a"))
        self.assertBad(8, text("a", "b", "c", "c"))

    def test_or_stands_in_choices_alone(self):
        for word, line in [("loop", 4), ("undo", 4)]:
            self.assertBad(line, text_of(["deeds ab", "body", word, "or", "end", "end"]))
            self.assertBad(line + 1, text_of(["deeds ab", "body", "either", word, "or", "end", "end", "end"]))
        self.assertBad(3, text_of(["deeds ab", "name a", "or", "end", "body", "end"]))
        self.assertBad(3, text_of(["deeds ab", "body", "or", "end"]))
        self.assertBad(6, text_of(["deeds ab", "body", "either", "loop", "end", "or ", "end", "end"]))
        self.assertEqual(read_program(text_of(["deeds ab", "body", "either", "loop", "end", "or", "end", "end"])),
                         of(("either", ((("loop", ()),), ()))))

    def test_other_line_breaks(self):
        for sign in OTHER_BREAKS:
            self.assertBad(1, TEXT.replace("\n", sign))
            self.assertBad(1, TEXT.replace("\n", sign + "\n"))
            self.assertBad(9, self.spoil(9, "do a" + sign + "do b"))
            self.assertBad(9, self.spoil(9, "do a" + sign))
            self.assertBad(28, TEXT + sign)

    def test_bad_programs(self):
        def assertPart(part, *lines):
            with self.assertRaises(BadProgram) as caught:
                read_program(text_of(lines))
            self.assertEqual(caught.exception.part, part)

        for deeds in ["ba", "aa", "abcde", "abcdefghijklmnopqrstuvwxyz"]:
            assertPart("deeds", "deeds " + deeds, "name toolongname", "end", "body", "do z", "end")
        assertPart("parts", "deeds a", "name toolongname", "end", "body", "end")
        assertPart("parts", "deeds a", *[line for name in "abcde" for line in ("name " + name, "end")], "body", "do z", "end")
        assertPart("parts", "deeds a", "name a", "part a", "end", "body", "end")
        assertPart("parts", "deeds a", "name a", "part b", "end", "body", "end")
        assertPart("parts", "deeds a", "name a", "do b", "end", "body", "end")
        assertPart("body", "deeds a", "body", "part b", "end")
        assertPart("body", "deeds a", "body", "do " + "a" * 13, "end")
        assertPart("body", "deeds a", "body", "do B", "end")
        assertPart("body", "deeds a", "body", *["do a"] * 9, "end")
        assertPart("body", "deeds a", "body", "either", *["or"] * 4, "end", "end")
        assertPart("body", "deeds a", "body", *["loop"] * 6, *["end"] * 6, "end")
        assertPart("size", "deeds a", "body", *["do " + "a" * 12] * 6, "end")
        read_program(text_of(["deeds a", "body", *["loop"] * 5, *["end"] * 5, "end"]))

    def test_the_text_counts_first(self):
        self.assertBad(5, text_of(["deeds ba", "name toolongname", "end", "body", "x", "end"]))
        self.assertBad(6, text_of(["deeds ba", "name toolongname", "end", "body", "end"]) + "end")

    def test_long_texts(self):
        many = 20000
        with self.assertRaises(BadProgram) as caught:
            read_program(text_of(["deeds ab", "body"] + ["do a"] * many + ["end"]))
        self.assertEqual(caught.exception.part, "body")
        self.assertBad(many + 3, text_of(["deeds ab", "body"] + ["do a"] * many))
        self.assertBad(many + 3, text_of(["deeds ab", "body"] + ["do a"] * many + ["x"]))
        with self.assertRaises(BadProgram):
            read_program(text_of(["deeds " + "a" * many, "body", "end"]))
        with self.assertRaises(BadProgram):
            read_program(text_of(["deeds a", "body", "do " + "a" * many, "end"]))
        with self.assertRaises(BadProgram):
            read_program(text_of(["deeds a", "body", "part " + "a" * many, "end"]))
        with self.assertRaises(BadProgram):
            read_program(text_of(["deeds a", "name " + "a" * many, "end", "body", "end"]))
        with self.assertRaises(BadProgram):
            read_program(text_of(["deeds ab", "body", "either"] + ["or"] * many + ["end", "end"]))

    def test_deep_texts(self):
        many = 20000
        for word in ["loop", "undo", "either", "other"]:
            with self.assertRaises(BadProgram) as caught:
                read_program(text_of(["deeds ab", "body"] + [word] * many + ["end"] * many + ["end"]))
            self.assertEqual(caught.exception.part, "body")
            with self.assertRaises(BadProgram) as caught:
                read_program(text_of(["deeds ab", "name a"] + [word] * many + ["end"] * many + ["end", "body", "end"]))
            self.assertEqual(caught.exception.part, "parts")
            self.assertBad(2 * many + 3, text_of(["deeds ab", "body"] + [word] * many + ["end"] * many))
            self.assertBad(many + 3, text_of(["deeds ab", "body"] + [word] * many + ["x"]))
            with self.assertRaises(BadProgram):
                read_program(text_of(["deeds ba", "body"] + [word] * many + ["end"] * many + ["end"]))


class ReadingWorldsTest(unittest.TestCase):
    def assertBad(self, line, text):
        with self.assertRaises(BadText) as caught:
            read_world(text)
        self.assertEqual((type(caught.exception.line), caught.exception.line), (int, line), text)

    def assertPart(self, part, *lines):
        with self.assertRaises(BadWorld) as caught:
            read_world(text_of(lines))
        self.assertEqual(caught.exception.part, part)

    def test_plain(self):
        self.assertEqual(read_world(WORLD_TEXT), W)
        self.assertEqual(read_world("world z\nz 0\n"), World("z", {"z": (0,)}))

    def test_by_chance(self):
        chance = random.Random(212)
        for _ in range(100):
            world = chance_world(chance, chance.choice(["a", "bx", "abcd"]), chance.randint(1, 24))
            self.assertEqual(read_world(world_text(world)), world)

    def test_what_is_no_string(self):
        for thing in odd_things() + odd_integers():
            self.assertBad(0, thing)

    def test_what_is_lacking(self):
        self.assertBad(1, "")
        for many in range(3):
            self.assertBad(many + 1, text_of(WORLD_LINES[:many]))
            self.assertBad(many + 1, text_of(WORLD_LINES[:many]) + WORLD_LINES[many])
        self.assertBad(4, WORLD_TEXT + "x")
        self.assertBad(4, WORLD_TEXT + "b 0 2 1")
        self.assertBad(1, "world ab")

    def test_wrong_lines(self):
        for line in ["", "world", "world ", "world a b", "world  ab", " world ab", "world ab ", "world aB", "world -", "World ab", "deeds ab",
                     "world 1", "a 0"]:
            self.assertBad(1, text_of([line] + WORLD_LINES[1:]))
            self.assertBad(1, line + "\n")
        for line in ["", "a", "a ", "a  1 2 0", "a 1  2 0", " a 1 2 0", "a 1 2 0 ", "a 1 2 x", "b 1 2 0", "A 1 2 0", "aa 1 2 0", "a +1 2 0",
                     "a 1 2 -0", "a 1 -2 0", "a 01 2 0", "a 1 2 00", "a 1 2 0.", "a 1.0 2 0", "a 1_0 2 0", "a 1\t2 0", "a 1 2 0\r", "world ab",
                     "a 1234567890 2 0", "a 1 2 1000000000", "a 0x1 2 0", "a \u0661 2 0", "a \u00b2 1 0", "1 2 0", "end", "a -"]:
            self.assertBad(2, text_of(["world ab", line, "b 0 2 1"]))
            self.assertBad(2, text_of(["world ab", line]))
            self.assertBad(2, text_of(["world ab", line, "x", "y", "z"]))

    def test_behind_the_last_line(self):
        for line in ["", "a 1 2 0", "b 0 2 1", "c 0 1 2", "end", "world ab"]:
            self.assertBad(4, WORLD_TEXT + line + "\n")
            self.assertBad(4, WORLD_TEXT + line + "\nx\n")

    def test_order_of_lines(self):
        self.assertBad(2, text_of(["world ab", "b 0 2 1", "a 1 2 0"]))
        self.assertBad(3, text_of(["world ab", "a 1 2 0", "a 1 2 0"]))
        self.assertBad(2, text_of(["world ba", "a 1 2 0", "b 0 2 1"]))

    def test_bad_worlds(self):
        self.assertPart("deeds", "world ba", "b 0", "a 0")
        self.assertPart("deeds", "world aa", "a 0", "a 5")
        self.assertPart("deeds", "world abcde", *[deed + " 7" for deed in "abcde"])
        self.assertPart("moves", "world ab", "a 0 1", "b 0")
        self.assertPart("moves", "world a", "a 1")
        self.assertPart("moves", "world a", "a 0 0")
        self.assertPart("moves", "world a", "a 0 999999999")
        self.assertPart("moves", "world a", "a" + "".join([" %d" % s for s in range(25)]))
        self.assertPart("moves", "world a", "a" + "".join([" %d" % s for s in range(20000)]))
        self.assertEqual(read_world("world a\na" + "".join([" %d" % s for s in range(24)]) + "\n").size, 24)

    def test_the_text_counts_first(self):
        self.assertBad(3, text_of(["world ba", "b 5"]))
        self.assertBad(3, text_of(["world ab", "a 0 0", "b x"]))

    def test_other_line_breaks(self):
        for sign in OTHER_BREAKS:
            self.assertBad(1, WORLD_TEXT.replace("\n", sign))
            self.assertBad(1, WORLD_TEXT.replace("\n", sign + "\n"))
            self.assertBad(4, WORLD_TEXT + sign)

    def test_long_texts(self):
        letters = "abcdefghijklmnopqrstuvwxyz" * 400
        self.assertPart("deeds", "world " + letters, *[letter + " 0" for letter in letters])
        self.assertBad(len(letters) + 1, text_of(["world " + letters] + [letter + " 0" for letter in letters[:-1]]))
        self.assertBad(2, text_of(["world a", "a" + " 0" * 9000 + " 00"]))


class TextsTest(unittest.TestCase):
    def test_deep_programs_go_round(self):
        program = of(("loop", (("undo", (("either", ((("other", ((("loop", (A,)),), ())),),)),)),)), *THREE)
        self.assertEqual(read_program(program_text(program)), program)

    def test_unlike_ones_have_unlike_texts(self):
        programs = [of(), of(("do", "")), of(("either", ((),))), of(("other", ((),))), of(("loop", ())), of(("undo", ())), of(A), of(A, A),
                    of(("do", "aa")), of(("either", ((A,), (B,)))), of(("either", ((A, B),))), of(("either", ((B,), (A,)))), of(deeds="abc"),
                    of(parts={"x": ()}), of(parts={"x": (A,)}), of(("part", "x"), parts={"x": ()}), of(("loop", (A,)), B), of(("loop", (A, B)))]
        self.assertEqual(len({program_text(program) for program in programs}), len(programs))
        for program in programs:
            self.assertEqual(read_program(program_text(program)), program)
