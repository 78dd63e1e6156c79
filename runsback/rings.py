"""Rings: what programs bring about in every finite world, where each loop may be gone backward, too."""

from runsback.demands import demand_row_over, demand_same_deeds
from runsback.detouring import leads_along
from runsback.effects import effects, lot_along
from runsback.errors import TooDeep, TooMany
from runsback.flows import Laying
from runsback.nets import reduced
from runsback.pairing import first_beyond
from runsback.statements import undone_block
from runsback.webs import Web, web_along

MOST_TERMS = 32
MOST_DEPTH = 2
NOTHING = (("",), ())


def terms(program):
    """The list of the terms of a program."""
    parts = program.parts
    if many_terms(parts, program.body) > MOST_TERMS:
        raise TooMany(MOST_TERMS)
    return block_terms(program.deeds, parts, program.body)


def sure(program, row):
    """Whether the net of the row is a net of some term of the program."""
    demand_row_over(program.deeds, row)
    many, arrows = laid_terms(shallow_terms(program))
    return leads_along(many, arrows, 0, 1, reduced(row))


def wound(program):
    """The effects of all nets of the terms of a program."""
    many, arrows = laid_terms(shallow_terms(program))
    return lot_along(program.deeds, many, arrows, 0, 1)


def within_finite(one, other):
    """Whether each effect of the one program is sure for the other one."""
    return beyond_finite(one, other) is None


def beyond_finite(one, other):
    """The earliest effect of the one program that is not sure for the other one, or None."""
    demand_same_deeds(one, other)
    # Too many terms and too great a depth come ahead of what is too large in either program.
    shallow_terms(other)
    return first_beyond(effects(one), wound(other))


def shallow_terms(program):
    """The terms of a program, which must not be too deep."""
    found = terms(program)
    if max([len(webs) for _, webs in found]) > MOST_DEPTH:
        raise TooDeep(MOST_DEPTH)
    return found


def in_full(deeds, term):
    """A term of depth 2 with the same nets as a term that is not too deep: (row, web, row, web, row)."""
    rows, webs = term
    lacking = MOST_DEPTH - len(webs)
    # A web without ways keeps the empty net alone.
    first, second = webs + (Web(deeds, 1, ()),) * lacking
    start, middle, last = rows + ("",) * lacking
    return (start, first, middle, second, last)


def many_terms(parts, block):
    """The number of the terms of a block."""
    many = 1
    for word, inner in block:
        if word in ("either", "other"):
            many = many * sum([many_terms(parts, choice) for choice in inner])
        elif word == "part":
            many = many * many_terms(parts, parts[inner])
        elif word == "undo":
            # The undone block has as many choices as the block.
            many = many * many_terms(parts, inner)
    return many


def block_terms(deeds, parts, block):
    """The terms of a block."""
    found = [NOTHING]
    for statement in block:
        more = statement_terms(deeds, parts, statement)
        found = [put_together(one, other) for one in found for other in more]
    return found


def statement_terms(deeds, parts, statement):
    """The terms of a statement."""
    word, inner = statement
    if word == "do":
        return [((reduced(inner),), ())]
    if word in ("either", "other"):
        return [term for block in inner for term in block_terms(deeds, parts, block)]
    if word == "loop":
        return [(("", ""), (web_of_rounds(deeds, parts, inner),))]
    if word == "part":
        return block_terms(deeds, parts, parts[inner])
    return block_terms(deeds, parts, undone_block(parts, inner))


def put_together(one, other):
    """The term of two terms, one behind the other."""
    rows, webs = one
    more, others = other
    return (rows[:-1] + (reduced(rows[-1] + more[0]),) + more[1:], webs + others)


def web_of_rounds(deeds, parts, block):
    """The web that keeps just the rows which the rounds of a loop with this block make.

    Laid from a place to itself, the block leads from each of its places to each other one. So whoever goes an
    arrow backward could instead go on forward and undo a whole round, and the arrows tell all that rounds make.
    """
    laying = Laying(parts)
    laying.lay_block(block, 0, 0)
    return web_along(deeds, laying.many, laying.arrows)


def laid_terms(found):
    """The flow in which the nets of terms are those of the rows along arrows from place 0 to place 1."""
    laying = Laying({})
    for rows, webs in found:
        place = 0
        for row, web in zip(rows, webs):
            goal = lay_web(laying, web)
            laying.lay_row(row, place, goal)
            place = goal
        laying.lay_row(rows[-1], place, 1)
    return (laying.many, laying.arrows)


def lay_web(laying, web):
    """Lay the ways of a web, to be gone forward and backward, and tell where its place 0 is laid."""
    places = [laying.place() for _ in range(web.size)]
    for start, deed, goal in web.ways:
        laying.lay_row(deed, places[start], places[goal])
        laying.lay_row(deed.upper(), places[goal], places[start])
    return places[0]
