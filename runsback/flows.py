"""Flows of programs, and their detours."""

from runsback.detouring import bits, detour_masks
from runsback.statements import undone_block


def flow(program):
    """The pair of the number of places and the list of the arrows of a program."""
    laying = laid(program)
    return (laying.many, laying.arrows)


def detours(program):
    """The ascending list of the pairs of places between which a row with an empty net leads."""
    many, arrows = flow(program)
    masks = detour_masks(many, arrows)
    return [(place, goal) for place in range(many) for goal in bits(masks[place])]


def laid(program):
    """The flow of a program, with the places that are the other hand's."""
    laying = Laying(program.parts)
    laying.lay_block(program.body, 0, 1)
    return laying


class Laying:
    """A flow that is being made, and a list of the places in it that are the other hand's."""

    def __init__(self, blocks):
        self.blocks = blocks
        self.many = 2
        self.arrows = []
        self.others = []

    def place(self):
        """Make a place."""
        self.many += 1
        return self.many - 1

    def stops(self, start, goal, ways):
        """The places between which so many ways lead from start to goal, one behind another."""
        stops = [start]
        for _ in range(ways - 1):
            stops.append(self.place())
        return stops + [goal]

    def lay_block(self, block, start, goal):
        """Lay a block."""
        if not block:
            self.arrows.append((start, "", goal))
            return
        stops = self.stops(start, goal, len(block))
        for at, statement in enumerate(block):
            self.lay(statement, stops[at], stops[at + 1])

    def lay(self, statement, start, goal):
        """Lay a statement."""
        word, inner = statement
        if word == "do":
            self.lay_row(inner, start, goal)
        elif word == "either":
            for block in inner:
                self.lay_block(block, start, goal)
        elif word == "other":
            self.lay_other(inner, start, goal)
        elif word == "loop":
            self.lay_loop(inner, start, goal)
        elif word == "part":
            self.lay_block(self.blocks[inner], start, goal)
        else:
            self.lay_block(undone_block(self.blocks, inner), start, goal)

    def lay_row(self, row, start, goal):
        """Lay a do with this row."""
        if row == "":
            self.arrows.append((start, "", goal))
            return
        stops = self.stops(start, goal, len(row))
        for at, letter in enumerate(row):
            self.arrows.append((stops[at], letter, stops[at + 1]))

    def lay_other(self, blocks, start, goal):
        """Lay an other with these blocks."""
        middle = self.place()
        self.others.append(middle)
        self.arrows.append((start, "", middle))
        for block in blocks:
            begin = self.place()
            self.arrows.append((middle, "", begin))
            self.lay_block(block, begin, goal)

    def lay_loop(self, block, start, goal):
        """Lay a loop with this block."""
        turn = self.place()
        self.arrows.append((start, "", turn))
        self.lay_block(block, turn, turn)
        self.arrows.append((turn, "", goal))
