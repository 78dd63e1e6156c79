"""Prices: the cheapest runs with a given net, and floors that show that none is cheaper."""

from runsback.climbing import Climb, layers_along, path_along
from runsback.demands import demand_row_over
from runsback.errors import BadPrices, TooLong
from runsback.flows import flow
from runsback.kinds import is_integer, is_integer_within, is_pair_below
from runsback.nets import letters_over, reduced
from runsback.planning import plan_along

MOST_PRICE = 5000


def cheapest(program, prices, row):
    """The pair of the least price of the runs with the row's net and the plan of such a run, or None."""
    demand_prices(program, prices)
    demand_row_over(program.deeds, row)
    return cheapest_run(program, prices, reduced(row))


def plan_for(program, row):
    """A plan of a run with the row's net and as few letters as possible, or None."""
    demand_row_over(program.deeds, row)
    found = cheapest_run(program, {letter: 1 for letter in letters_over(program.deeds)}, reduced(row))
    return None if found is None else found[1]


def heights(program, prices):
    """The dict from all detours to the least sums of prices along them."""
    demand_prices(program, prices)
    many, arrows = flow(program)
    return Climb(many, arrows, prices).prices_of_detours()


def is_floor(program, prices, row, least, thing):
    """Whether the thing is a floor that shows no run with the row's net to be cheaper than least."""
    demand_prices(program, prices)
    demand_row_over(program.deeds, row)
    many, arrows = flow(program)
    if not is_table_of_pairs(many, thing) or not has_all_sums(many, arrows, prices, thing):
        return False
    last = layers_along(arrows, prices, thing, reduced(row))[-1]
    return 1 not in last or last[1][0] >= least


def demand_prices(program, thing):
    """Raise BadPrices for what are no prices of the letters over the program's deeds."""
    letters = letters_over(program.deeds)
    if not isinstance(thing, dict) or len(thing) != len(letters):
        raise BadPrices()
    if not all([letter in thing and is_integer_within(thing[letter], 1, 99) for letter in letters]):
        raise BadPrices()


def cheapest_run(program, prices, one):
    """The pair of the least price of the runs with this net and the plan of such a run, or None."""
    many, arrows = flow(program)
    climb = Climb(many, arrows, prices)
    layers = layers_along(arrows, prices, climb.prices_of_detours(), one)
    if 1 not in layers[-1]:
        return None
    price = layers[-1][1][0]
    if price > MOST_PRICE:
        raise TooLong(MOST_PRICE)
    return (price, plan_along(program, path_along(climb, layers, 1)))


def is_table_of_pairs(many, thing):
    """Whether the thing is a dict from pairs of places to integers from 0 on."""
    if not isinstance(thing, dict):
        return False
    return all([is_pair_below(many, many, pair) and is_integer(thing[pair]) and thing[pair] >= 0 for pair in thing])


def has_all_sums(many, arrows, prices, floor):
    """Whether the table has all pairs that a floor has, with sums as little as they have to be."""
    return (all([is_at_most(floor, (place, place), 0) for place in range(many)])
            and all([is_at_most(floor, (place, goal), 0) for place, letter, goal in arrows if letter == ""])
            and has_all_joined(many, floor)
            and has_all_around(arrows, prices, floor))


def has_all_joined(many, floor):
    """Whether with two pairs that stand one behind the other there is the pair of both, with their sum at most."""
    lasts = [[] for _ in range(many)]
    for place, goal in floor:
        lasts[place].append(goal)
    for place, goal in floor:
        for last in lasts[goal]:
            if not is_at_most(floor, (place, last), floor[(place, goal)] + floor[(goal, last)]):
                return False
    return True


def has_all_around(arrows, prices, floor):
    """Whether with each pair those are there that lie around it, with its sum and the prices of both letters."""
    for place, letter, first in arrows:
        for last, second, goal in arrows:
            if letter != "" and second == letter.swapcase() and (first, last) in floor:
                if not is_at_most(floor, (place, goal), floor[(first, last)] + prices[letter] + prices[second]):
                    return False
    return True


def is_at_most(floor, pair, bound):
    """Whether the table has the pair, with the bound or less."""
    return pair in floor and floor[pair] <= bound
