"""Programs compared in every world, by their effects."""

from runsback.demands import demand_same_deeds
from runsback.effects import effects
from runsback.kinds import are_pairs_below
from runsback.pairing import GONE, first_beyond, led_pairs


def within(one, other):
    """Whether each effect of the one program is an effect of the other one."""
    return beyond(one, other) is None


def same(one, other):
    """Whether both programs have the same effects."""
    first, second = effects_of_both(one, other)
    return first == second


def beyond(one, other):
    """The earliest effect of the one program that the other one has not, or None."""
    first, second = effects_of_both(one, other)
    return first_beyond(first, second)


def leading(one, other):
    """The pairs of states to which the effects of the one program lead in both, or None if it is not within."""
    first, second = effects_of_both(one, other)
    if first_beyond(first, second) is not None:
        return None
    pairs, _ = led_pairs(first, second)
    return sorted([pair for pair in pairs if pair[0] != GONE])


def is_leading(one, other, thing):
    """Whether the thing is a list of pairs of states that shows the one program to be within the other one."""
    first, second = effects_of_both(one, other)
    steps, others = first.steps, second.steps
    if not are_pairs_below(len(steps), len(others), thing):
        return False
    told = {pair: True for pair in thing}
    if (0, 0) not in told:
        return False
    for state, led in thing:
        if state in first.ends and led not in second.ends:
            return False
        if not leads_on(steps[state], others[led], told):
            return False
    return True


def effects_of_both(one, other):
    """The pair of the effects of two programs, which must have the same deeds."""
    demand_same_deeds(one, other)
    return (effects(one), effects(other))


def leads_on(step, second, told):
    """Whether for each step there is a second one by the same letter, to a pair of states that is told."""
    return all([letter in second and (step[letter], second[letter]) in told for letter in step])
