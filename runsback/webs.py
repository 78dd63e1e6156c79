"""Webs: places and ways that keep just the rows which some rows make."""

from runsback.demands import demand_row_over, demand_rows_over, demand_same_deeds
from runsback.folding import Folding
from runsback.nets import letters_over, reduced, split_net, undoings
from runsback.worlds import world_of

MOST_ROWS = 6
MOST_LETTERS = 12


class Web:
    """A web over deeds: so many places, and ways as an ascending tuple."""

    def __init__(self, deeds, size, ways):
        self.deeds = deeds
        self.size = size
        self.ways = ways

    def __eq__(self, other):
        return (isinstance(other, Web) and self.deeds == other.deeds and self.size == other.size
                and self.ways == other.ways)


def web_of(deeds, rows):
    """The web that keeps just the rows which these rows make."""
    demand_rows_over(deeds, rows, MOST_ROWS, MOST_LETTERS)
    many, arrows = rounds_from_0([reduced(row) for row in rows])
    return web_along(deeds, many, arrows)


def keeps(web, row):
    """Whether the web keeps the row."""
    demand_row_over(web.deeds, row)
    return place_behind(leads_of(web), 0, reduced(row)) == 0


def basis(web):
    """The nets that make just the rows that the web keeps, each row in one way only."""
    way_rows = way_rows_of(web)
    found = []
    for place, deed, goal in web.ways:
        ahead, behind = way_rows[place], way_rows[goal]
        if behind != ahead + deed and ahead != behind + deed.upper():
            found.append(reduced(ahead + deed + undoings(behind)))
    return found


def index(web):
    """The size of the web if each letter leads from each place somewhere, otherwise None."""
    return web.size if len(web.ways) == web.size * len(web.deeds) else None


def inside(one, other):
    """Whether the other web keeps each row that the one keeps."""
    demand_same_deeds(one, other)
    there = leads_of(other)
    laid_on = {0: 0}
    # The places stand in the order of their way-rows, so each has a way to an earlier one.
    for place, step in enumerate(leads_of(one)):
        for letter in step:
            goal = there[laid_on[place]].get(letter)
            if goal is None or laid_on.setdefault(step[letter], goal) != goal:
                return False
    return True


def common(one, other):
    """The web that keeps just the rows that both keep."""
    demand_same_deeds(one, other)
    here, there = leads_of(one), leads_of(other)
    pairs = [(0, 0)]
    numbers = {(0, 0): 0}
    leads = []
    while len(leads) < len(pairs):
        place, second = pairs[len(leads)]
        step = {}
        for letter in here[place]:
            if letter in there[second]:
                pair = (here[place][letter], there[second][letter])
                step[letter] = numbers.setdefault(pair, len(pairs))
                if step[letter] == len(pairs):
                    pairs.append(pair)
        leads.append(step)
    return web_from(one.deeds, leads)


def joint(one, other):
    """The web that keeps just the rows that are made by those which one of both keeps."""
    demand_same_deeds(one, other)
    arrows = list(one.ways)
    # Both have place 0 in common, the other places of the second one are numbered behind those of the first.
    numbers = [0] + [one.size + place for place in range(other.size - 1)]
    arrows.extend([(numbers[place], deed, numbers[goal]) for place, deed, goal in other.ways])
    return web_along(one.deeds, one.size + other.size - 1, arrows)


def least_power(web, row):
    """How often at least, from 1 on, the row is gone until it is kept, or None."""
    demand_row_over(web.deeds, row)
    leads = leads_of(web)
    side, core = split_net(reduced(row))
    start = place_behind(leads, 0, side)
    if start is None:
        return None
    # As no two places are led to the same one, whoever comes round comes to the start first.
    place = place_behind(leads, start, core)
    times = 1
    while place is not None and place != start:
        place = place_behind(leads, place, core)
        times += 1
    return None if place is None else times


def as_world(web):
    """The world with the places as its standings, or None if some letter leads nowhere from some place."""
    if index(web) is None:
        return None
    leads = leads_of(web)
    return world_of(web.deeds, {deed: tuple([step[deed] for step in leads]) for deed in web.deeds})


def rounds_from_0(nets):
    """The number of places and the arrows of rounds that lead from 0 to 0, one with each net."""
    many = 1
    arrows = []
    for one in nets:
        stops = [0] + list(range(many, many + len(one) - 1)) + [0]
        many += max(len(one) - 1, 0)
        arrows.extend([(stops[at], letter, stops[at + 1]) for at, letter in enumerate(one)])
    return (many, arrows)


def web_along(deeds, many, arrows):
    """The web that keeps the nets of the rows along arrows, forward and backward, from place 0 to itself."""
    folding = Folding(many, 0)
    for place, letter, goal in arrows:
        folding.add_arrow(place, letter, goal, ())
    return web_from(deeds, folding.leads())


def web_from(deeds, leads):
    """The web of the places that hang together with 0, dead ends being left out."""
    letters = letters_over(deeds)
    alive = without_dead_ends(leads)
    places = [0]
    numbers = {0: 0}
    ways = []
    gone = 0
    while gone < len(places):
        step = alive[places[gone]]
        for letter in letters:
            if letter in step:
                goal = numbers.setdefault(step[letter], len(places))
                if goal == len(places):
                    places.append(step[letter])
                if letter.islower():
                    ways.append((gone, letter, goal))
        gone += 1
    return Web(deeds, len(places), tuple(sorted(ways)))


def without_dead_ends(leads):
    """The leads without the places, other than 0, that have but one end of a way."""
    alive = [dict(step) for step in leads]
    waiting = [place for place, step in enumerate(alive) if place != 0 and len(step) == 1]
    while waiting:
        place = waiting.pop()
        for letter in list(alive[place]):
            goal = alive[place].pop(letter)
            del alive[goal][letter.swapcase()]
            if goal != 0 and len(alive[goal]) == 1:
                waiting.append(goal)
    return alive


def leads_of(web):
    """For each place of the web a dict from letters to the places to which they lead."""
    leads = [{} for _ in range(web.size)]
    for place, deed, goal in web.ways:
        leads[place][deed] = goal
        leads[goal][deed.upper()] = place
    return leads


def place_behind(leads, start, row):
    """The place to which the letters of a row lead from a place, or None."""
    place = start
    for letter in row:
        if letter not in leads[place]:
            return None
        place = leads[place][letter]
    return place


def way_rows_of(web):
    """For each place of the web the earliest net that leads 0 to it."""
    letters = letters_over(web.deeds)
    found = {0: ""}
    # The places are numbered in the order of these nets, so that each one is known when its turn comes.
    for place, step in enumerate(leads_of(web)):
        for letter in letters:
            if letter in step:
                found.setdefault(step[letter], found[place] + letter)
    return found
