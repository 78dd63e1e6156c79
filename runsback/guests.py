"""Guests: plans made for the very world that somebody hands in."""

from runsback.demands import demand_row_over, demand_same_deeds
from runsback.homes import lengthen
from runsback.moving import letter_moves, order_of, plan_move
from runsback.nets import met_net, reduced, undoings
from runsback.planning import plan_turned
from runsback.rings import in_full, many_terms, shallow_terms
from runsback.statements import undone_block
from runsback.webs import leads_of, place_behind
from runsback.winding import wound_rounds


def plan_in(world, program, row):
    """A plan of a run that leads each standing of the world to where the row leads it, or None."""
    demand_same_deeds(world, program)
    demand_row_over(program.deeds, row)
    one = reduced(row)
    for number, term in enumerate(shallow_terms(program)):
        kept = kept_rows(in_full(program.deeds, term), one)
        if kept is not None:
            return Guiding(world, program, kept).block_plan(program.body, number)
    return None


def kept_rows(term, one):
    """The rows, one for each web of a term that is told in full, which make it the net one, or None."""
    first, web, between, other, last = term
    # A row that the first web keeps and the row between make what is left and an undone row of the second web.
    left = met_net([undoings(first), one, undoings(last)])
    leads = leads_of(web)
    lengthen(leads, between)
    others = leads_of(other)
    lengthen(others, undoings(left))
    start = (0, place_behind(others, 0, undoings(left)))
    goal = (place_behind(leads, 0, between), 0)
    common = common_row(leads, others, start, goal)
    if common is None:
        return None
    return [met_net([common, undoings(between)]), met_net([undoings(common), left])]


def common_row(leads, others, start, goal):
    """A row that leads from a pair of places, one in each of both leads, to another pair, or None."""
    before = {start: (None, "")}
    pairs = [start]
    gone = 0
    while gone < len(pairs):
        place, second = pairs[gone]
        for letter in leads[place]:
            if letter in others[second]:
                pair = (leads[place][letter], others[second][letter])
                if pair not in before:
                    before[pair] = ((place, second), letter)
                    pairs.append(pair)
        gone += 1
    if goal not in before:
        return None
    row = []
    pair = goal
    while pair != start:
        pair, letter = before[pair]
        row.append(letter)
    return "".join(row[::-1])


class Guiding:
    """A plan that is being made, whose loops do the rows that are kept, as far as the world can tell."""

    def __init__(self, world, program, kept):
        self.blocks = program.parts
        self.letters = letter_moves(world)
        self.kept = kept
        self.wound = 0

    def block_plan(self, block, number):
        """The plan of a block for the term with this number."""
        numbers = []
        rest = number
        for statement in block[::-1]:
            many = many_terms(self.blocks, (statement,))
            numbers.append(rest % many)
            rest = rest // many
        return tuple([self.item_plan(statement, own) for statement, own in zip(block, numbers[::-1])])

    def item_plan(self, statement, number):
        """What the plan has for a statement, for its term with this number."""
        word, inner = statement
        if word == "do":
            return ()
        if word in ("either", "other"):
            return self.choice(inner, number)
        if word == "loop":
            self.wound += 1
            return self.rounds(inner, self.kept[self.wound - 1])
        if word == "part":
            return self.block_plan(self.blocks[inner], number)
        plan = self.block_plan(undone_block(self.blocks, inner), number)
        return plan_turned(self.blocks, inner, plan)

    def choice(self, blocks, number):
        """The pair for the block of which the term is one."""
        index = 0
        rest = number
        while rest >= many_terms(self.blocks, blocks[index]):
            rest -= many_terms(self.blocks, blocks[index])
            index += 1
        return (index, self.block_plan(blocks[index], rest))

    def rounds(self, block, one):
        """The pairs for rounds that lead as the net one does.

        A round that is gone backward is gone forward as often as makes it lead each standing back.
        """
        plans, pairs = wound_rounds(self.blocks, block, one)
        turns = [order_of(plan_move(self.blocks, self.letters, block, plan)) for plan in plans]
        return tuple([(plans[number], times % turns[number]) for number, times in pairs if times % turns[number] != 0])
