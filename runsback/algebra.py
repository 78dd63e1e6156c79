"""Effects put together."""

from runsback.demands import demand_same_deeds
from runsback.effects import Effects, lot_along
from runsback.nets import letters_over
from runsback.pairing import led_pairs
from runsback.reckoning import merged, trimmed


def both(one, other):
    """The nets that belong to both."""
    return paired(one, other, lambda here, there: here and there)


def one_of(one, other):
    """The nets that belong to at least one of both."""
    return paired(one, other, lambda here, there: here or there)


def less(one, other):
    """The nets that belong to the first one alone."""
    return paired(one, other, lambda here, there: here and not there)


def behind(one, other):
    """The nets of a net of the one and then one of the other."""
    demand_same_deeds(one, other)
    size = len(one.steps)
    goal = size + len(other.steps)
    arrows = arrows_of(one, 0) + arrows_of(other, size)
    arrows.extend([(end, "", size) for end in one.ends])
    arrows.extend([(size + end, "", goal) for end in other.ends])
    return lot_along(one.deeds, goal + 1, arrows, 0, goal)


def backward(one):
    """The undone nets."""
    start = len(one.steps)
    arrows = [(goal, letter.swapcase(), place) for place, letter, goal in arrows_of(one, 0)]
    arrows.extend([(start, "", end) for end in one.ends])
    return lot_along(one.deeds, start + 1, arrows, start, 0)


def again(one):
    """The nets of any number of nets of the one, also none, one behind another."""
    turn = len(one.steps)
    arrows = arrows_of(one, 0) + [(turn, "", 0)]
    arrows.extend([(end, "", turn) for end in one.ends])
    return lot_along(one.deeds, turn + 1, arrows, turn, turn)


def arrows_of(lot, more):
    """The steps of a lot as arrows between places that have so much greater numbers than its states."""
    arrows = []
    for state, step in enumerate(lot.steps):
        arrows.extend([(state + more, letter, step[letter] + more) for letter in step])
    return arrows


def paired(one, other, wanted):
    """The nets that are wanted, by whether they belong to the one and whether to the other."""
    demand_same_deeds(one, other)
    letters = letters_over(one.deeds)
    pairs, steps = led_pairs(one, other)
    ends = [number for number, (state, second) in enumerate(pairs)
            if wanted(state in one.ends, second in other.ends)]
    steps, ends = trimmed(steps, ends)
    steps, ends = merged(letters, steps, ends)
    return Effects(one.deeds, steps, ends)
