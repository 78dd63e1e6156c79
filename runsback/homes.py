"""Homes: worlds in which some rows lead 0 to 0, and others do not."""

from runsback.demands import demand_rows_over
from runsback.errors import NoDenied
from runsback.kinds import are_rows_over
from runsback.nets import reduced
from runsback.webs import MOST_LETTERS, MOST_ROWS, leads_of, place_behind, web_of
from runsback.worlds import World, led, world_of

MOST_DENIED = 6
MOST_DENIED_LETTERS = 60


def home(deeds, rows, denied):
    """A world in which each of the rows leads 0 to 0 and none of the denied ones does, or None."""
    demand_arguments(deeds, rows, denied)
    leads = leads_of(web_of(deeds, rows))
    nets = [reduced(row) for row in denied]
    if any([place_behind(leads, 0, one) == 0 for one in nets]):
        return None
    for one in nets:
        lengthen(leads, one)
    return world_of(deeds, {deed: completed(leads, deed) for deed in deeds})


def is_home(deeds, rows, denied, thing):
    """Whether the thing is a world in which each of the rows leads 0 to 0 and none of the denied ones does."""
    demand_arguments(deeds, rows, denied)
    if not isinstance(thing, World) or thing.deeds != deeds:
        return False
    return all([led(thing, 0, row) == 0 for row in rows]) and all([led(thing, 0, row) != 0 for row in denied])


def demand_arguments(deeds, rows, denied):
    """Raise an error for what are no deeds, no such rows, or no rows to be denied."""
    demand_rows_over(deeds, rows, MOST_ROWS, MOST_LETTERS)
    if not are_rows_over(deeds, denied, MOST_DENIED, MOST_DENIED_LETTERS):
        raise NoDenied()


def lengthen(leads, one):
    """Add places until the letters of a net lead from 0 somewhere.

    One leaves a new place only the way one came or to a newer one, so that no more nets lead 0 to 0 than before.
    """
    place = 0
    for letter in one:
        if letter not in leads[place]:
            leads[place][letter] = len(leads)
            leads.append({letter.swapcase(): place})
        place = leads[place][letter]


def completed(leads, deed):
    """The tuple of the places to which a deed leads, where it leads nowhere a place to which none led."""
    free = [place for place, step in enumerate(leads) if deed.upper() not in step]
    found = []
    for step in leads:
        found.append(step[deed] if deed in step else free.pop())
    return tuple(found)
