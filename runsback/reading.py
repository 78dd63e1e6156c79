"""Texts of programs and worlds read."""

from runsback.errors import BadText
from runsback.kinds import is_decimal, is_row_word, is_small_word
from runsback.programs import Program
from runsback.worlds import World


def read_program(text):
    """The program of a text."""
    lines = lines_of(text)
    reading = Reading()
    for number, line in enumerate(lines[:-1]):
        if not reading.takes(line.split(" ")):
            raise BadText(number + 1)
    if lines[-1] != "" or reading.body is None:
        raise BadText(len(lines))
    return Program(reading.deeds, reading.blocks, reading.body)


def read_world(text):
    """The world of a text."""
    lines = lines_of(text)
    deeds = ""
    moves = {}
    for number, line in enumerate(lines[:-1]):
        words = line.split(" ")
        if number == 0 and len(words) == 2 and words[0] == "world" and is_small_word(words[1]):
            deeds = words[1]
        elif 1 <= number <= len(deeds) and words[0] == deeds[number - 1] and are_decimals(words[1:]):
            moves[words[0]] = tuple([int(word) for word in words[1:]])
        else:
            raise BadText(number + 1)
    if lines[-1] != "" or len(lines) <= 1 + len(deeds):
        raise BadText(len(lines))
    return World(deeds, moves)


def lines_of(text):
    """The lines that line feeds close, and what stands behind the last one."""
    if not isinstance(text, str):
        raise BadText(0)
    return text.split("\n")


def are_decimals(words):
    """Whether there are words, and each is a decimal number."""
    return len(words) > 0 and all([is_decimal(word) for word in words])


class Frame:
    """A statement, a part or the body that is being read: its finished blocks and the statements behind these."""

    def __init__(self, word, name):
        self.word = word
        self.name = name
        self.finished = []
        self.statements = []

    def close_block(self):
        """Finish a block."""
        self.finished.append(tuple(self.statements))
        self.statements = []

    def statement(self):
        """The statement that is finished."""
        return (self.word, tuple(self.finished) if self.word in ("either", "other") else self.finished[0])


class Reading:
    """What has been read of a program, and the frames that are not closed, each within the one ahead of it."""

    def __init__(self):
        self.deeds = None
        self.blocks = {}
        self.body = None
        self.last_name = ""
        self.frames = []

    def takes(self, words):
        """Take up a line, told as its words, and tell whether it is right where it stands."""
        if self.frames:
            return self.takes_in_block(words)
        if self.body is not None:
            return False
        if self.deeds is None:
            return self.takes_deeds(words)
        if words == ["body"]:
            self.frames.append(Frame("body", ""))
            return True
        return self.takes_name(words)

    def takes_deeds(self, words):
        """Take up the first line."""
        if len(words) != 2 or words[0] != "deeds" or not is_small_word(words[1]):
            return False
        self.deeds = words[1]
        return True

    def takes_name(self, words):
        """Take up the line with the name of a part."""
        if len(words) != 2 or words[0] != "name" or not is_small_word(words[1]) or words[1] <= self.last_name:
            return False
        self.last_name = words[1]
        self.frames.append(Frame("name", words[1]))
        return True

    def takes_in_block(self, words):
        """Take up a line within a block."""
        frame = self.frames[-1]
        if words in (["either"], ["other"], ["loop"], ["undo"]):
            self.frames.append(Frame(words[0], ""))
        elif words == ["or"] and frame.word in ("either", "other"):
            frame.close_block()
        elif words == ["end"]:
            self.close(self.frames.pop())
        elif len(words) == 2 and words[0] == "do" and is_row_word(words[1]):
            frame.statements.append(("do", "" if words[1] == "-" else words[1]))
        elif len(words) == 2 and words[0] == "part" and is_small_word(words[1]):
            frame.statements.append(("part", words[1]))
        else:
            return False
        return True

    def close(self, frame):
        """Put what is finished where it belongs."""
        frame.close_block()
        if frame.word == "body":
            self.body = frame.finished[0]
        elif frame.word == "name":
            self.blocks[frame.name] = frame.finished[0]
        else:
            self.frames[-1].statements.append(frame.statement())
