"""Desks: programs and worlds kept under names, and what is asked of them, line by line."""

from runsback.comparing import within
from runsback.covers import reached
from runsback.effects import effects, first, has, many
from runsback.errors import NoLine, NoName, NothingDone
from runsback.kinds import is_decimal, is_row_word, is_small_word
from runsback.reading import read_program, read_world
from runsback.rings import sure, within_finite
from runsback.sums import sure_sums
from runsback.texts import row_word

FORMS = {
    "drop": ("name",),
    "names": (),
    "effect": ("name", "row"),
    "sure": ("name", "row"),
    "sums": ("name", "row"),
    "within": ("name", "name"),
    "finite": ("name", "name"),
    "first": ("name",),
    "many": ("name",),
    "reached": ("name", "name", "standing"),
    "undo": (),
}


class Desk:
    """Programs and worlds under names, and what is needed to take back the lines that have changed them."""

    def __init__(self):
        self._programs = {}
        self._worlds = {}
        self._done = []

    def tell(self, line):
        """Do a line, and return the answer."""
        if not isinstance(line, str) or "\n" in line:
            raise NoLine()
        word, _, rest = line.partition(" ")
        if word in ("program", "world"):
            return self._keep(word, rest)
        words = line.split(" ")
        if not has_form(words):
            raise NoLine()
        if word == "drop":
            return self._drop(words[1])
        if word == "undo":
            return self._undo()
        if word == "names":
            return " ".join(sorted(list(self._programs))) if self._programs else "none"
        if word == "reached":
            return self._reached(words[1], words[2], int(words[3]))
        return self._asked(word, words[1:])

    def undoable(self):
        """How many lines can be taken back."""
        return len(self._done)

    def _keep(self, word, rest):
        """Keep the program or the world of a text under a name."""
        name, _, text = rest.partition(" ")
        if not is_name(name) or text == "":
            raise NoLine()
        lines = text.replace("|", "\n")
        if word == "program":
            self._change(name, read_program(lines), self._worlds.get(name))
        else:
            self._change(name, self._programs.get(name), read_world(lines))
        return "ok"

    def _drop(self, name):
        """Drop the program and the world of a name."""
        if name not in self._programs and name not in self._worlds:
            raise NoName(name)
        self._change(name, None, None)
        return "ok"

    def _undo(self):
        """Take back the last line that has changed something."""
        if not self._done:
            raise NothingDone()
        name, program, world = self._done.pop()
        put(self._programs, name, program)
        put(self._worlds, name, world)
        return "ok"

    def _change(self, name, program, world):
        """Put a program and a world, or None, under a name, and keep what stood there."""
        self._done.append((name, self._programs.get(name), self._worlds.get(name)))
        put(self._programs, name, program)
        put(self._worlds, name, world)

    def _reached(self, name, second, standing):
        """The answer to which standings a program comes."""
        world = kept(self._worlds, name)
        program = kept(self._programs, second)
        return " ".join([str(goal) for goal in reached(world, program, standing)])

    def _asked(self, word, words):
        """The answer to what is asked of a program, with another one or a row perhaps."""
        program = kept(self._programs, words[0])
        if word == "first":
            return row_word(first(effects(program)))
        if word == "many":
            number = many(effects(program))
            return "endless" if number is None else str(number)
        if word in ("within", "finite"):
            other = kept(self._programs, words[1])
            return flag_word(within(program, other) if word == "within" else within_finite(program, other))
        row = "" if words[1] == "-" else words[1]
        if word == "effect":
            return flag_word(has(effects(program), row))
        return flag_word(sure(program, row) if word == "sure" else sure_sums(program, row))


def has_form(words):
    """Whether the words of a line have one of the forms, other than that with a text."""
    form = FORMS.get(words[0])
    if form is None or len(form) != len(words) - 1:
        return False
    return all([fits(kind, word) for kind, word in zip(form, words[1:])])


def fits(kind, word):
    """Whether a word is of this kind."""
    if kind == "name":
        return is_name(word)
    return is_row_word(word) if kind == "row" else is_decimal(word)


def is_name(word):
    """Whether a word is a name."""
    return is_small_word(word) and len(word) <= 8


def kept(table, name):
    """What is kept under a name."""
    if name not in table:
        raise NoName(name)
    return table[name]


def put(table, name, thing):
    """Put a thing under a name, or nothing if it is None."""
    if thing is None:
        table.pop(name, None)
    else:
        table[name] = thing


def flag_word(flag):
    """The word for a flag."""
    return "yes" if flag else "no"
