"""Towers: worlds side by side, with a book of the ways gone, that deny rows to programs."""

from runsback.booking import is_denied
from runsback.demands import demand_row_over
from runsback.flows import Laying
from runsback.folding import Folding
from runsback.homes import completed
from runsback.kinds import is_integer_within
from runsback.moving import letter_moves
from runsback.nets import reduced, undoings
from runsback.rings import in_full, lay_web, shallow_terms, sure
from runsback.worlds import World, led, world_of

MOST_WORLDS = 4


def stand(tower, row):
    """The pair of the standings to which the row leads and the ways that are gone an odd number of times."""
    worlds, starts, booked = tower
    demand_row_over(worlds[0].deeds, row)
    moves = [letter_moves(world) for world in worlds]
    at = starts
    odd = {}
    for letter in row:
        goal = tuple([move[letter][standing] for move, standing in zip(moves, at)])
        way = (at, letter) if letter.islower() else (goal, letter.lower())
        odd[way] = booked and not odd.get(way, False)
        at = goal
    return (at, tuple(sorted([way for way in odd if odd[way]])))


def denial(program, row):
    """A list with a tower for each term in which no net of the term has the same stand as the row, or None."""
    if sure(program, row):
        return None
    one = reduced(row)
    return [tower_against(program.deeds, in_full(program.deeds, term), one) for term in shallow_terms(program)]


def is_denial(program, row, thing):
    """Whether the thing is a denial of the row to the program."""
    demand_row_over(program.deeds, row)
    found = shallow_terms(program)
    if not isinstance(thing, list) or len(thing) != len(found):
        return False
    if not all([is_tower(program.deeds, tower) for tower in thing]):
        return False
    one = reduced(row)
    return all([is_denied(tower, in_full(program.deeds, term), one) for tower, term in zip(thing, found)])


def is_tower(deeds, thing):
    """Whether the thing is a tower over the deeds."""
    if not isinstance(thing, tuple) or len(thing) != 3:
        return False
    worlds, starts, booked = thing
    if not isinstance(worlds, tuple) or not 1 <= len(worlds) <= MOST_WORLDS:
        return False
    if not all([isinstance(world, World) and world.deeds == deeds for world in worlds]):
        return False
    if not isinstance(starts, tuple) or len(starts) != len(worlds) or not isinstance(booked, bool):
        return False
    return all([is_integer_within(start, 0, world.size - 1) for start, world in zip(starts, worlds)])


def tower_against(deeds, term, one):
    """A tower in which no net of a term, told in full, has the same stand as the net one.

    The first row is laid from place 0 to HERE, where the first web stands; the second half, which is the row
    between, the second web and the last row, from the MIDDLE to place 1; and the net one from 0 to 1. If a net of
    the term led from 0 to 1, too, its first half would lead HERE, and its second half would come from the MIDDLE.
    So if these two stay different places when all is folded, a world alone denies.
    """
    first, web, between, other, last = term
    laying = Laying({})
    here = lay_half(laying, 0, first, web)
    middle = laying.place()
    lay_second_half(laying, middle, between, other, last)
    laying.lay_row(one, 0, 1)
    world, standings = world_along(deeds, laying, [0, here, middle])
    if standings[1] != standings[2]:
        return ((world,), (standings[0],), False)
    return booked_tower(deeds, term, one)


def booked_tower(deeds, term, one):
    """A tower with a book, for a net one by which HERE and the MIDDLE are laid on one another.

    Then a beginning of the net one goes ways of the first half alone, and what is behind it ways of the second
    one. If a net of the term had the same stand, its own first half and that beginning would be unlike, in the
    book, by ways that belong to both halves. So a row of such ways would lead from where the one ends to where the
    other one does, in both halves alike, and the net one would be a net of the term itself.
    """
    first, web, between, other, last = term
    ahead = Laying({})
    lay_half(ahead, 0, first, web)
    world, standings = world_along(deeds, ahead, [0])
    behind = Laying({})
    lay_second_half(behind, 0, between, other, last)
    second, goals = world_along(deeds, behind, [1])
    start = led(second, goals[0], undoings(one))
    return ((world, second), (standings[0], start), True)


def lay_half(laying, start, row, web):
    """Lay a row from a place and a web behind it, and tell where the web stands."""
    place = lay_web(laying, web)
    laying.lay_row(row, start, place)
    return place


def lay_second_half(laying, start, row, web, last):
    """Lay a row from a place, a web behind it, and a row from there to place 1."""
    laying.lay_row(last, lay_half(laying, start, row, web), 1)


def world_along(deeds, laying, places):
    """The pair of a world in which letters lead along the arrows of a laying, and the standings of some of its places.

    Places that are laid on one another are one standing, those from which no letter leads are none.
    """
    folding = Folding(laying.many, 0)
    for place, letter, goal in laying.arrows:
        folding.add_arrow(place, letter, goal, ())
    leads = folding.leads()
    kept = [place for place in range(laying.many) if len(leads[place]) > 0]
    numbers = {place: number for number, place in enumerate(kept)}
    steps = [{letter: numbers[leads[place][letter]] for letter in leads[place]} for place in kept]
    world = world_of(deeds, {deed: completed(steps, deed) for deed in deeds})
    return (world, [numbers[folding.top(place)[0]] for place in places])
