"""Shutters: detours and lots of places that show what is no effect."""

from runsback.demands import demand_row_over
from runsback.detouring import bits, detour_masks, mask_led, mask_of
from runsback.flows import flow
from runsback.kinds import are_pairs_below, is_integer_within
from runsback.nets import reduced


def shutter(program, row):
    """A pair of detours and lots that shuts the row out, or None if its net is an effect."""
    demand_row_over(program.deeds, row)
    many, arrows = flow(program)
    masks = detour_masks(many, arrows)
    lots = [masks[0]]
    for letter in reduced(row):
        lots.append(mask_led(arrows, masks, lots[-1], letter))
    if lots[-1] >> 1 & 1:
        return None
    pairs = [(place, goal) for place in range(many) for goal in bits(masks[place])]
    return (pairs, [bits(lot) for lot in lots])


def is_shutter(program, row, thing):
    """Whether the thing is a shutter for the row."""
    demand_row_over(program.deeds, row)
    if not isinstance(thing, tuple) or len(thing) != 2:
        return False
    many, arrows = flow(program)
    pairs, lots = thing
    if not are_pairs_below(many, many, pairs) or not are_lots(many, lots):
        return False
    masks = [0] * many
    for place, goal in pairs:
        masks[place] |= 1 << goal
    return has_all_pairs(arrows, masks) and shuts(arrows, masks, reduced(row), [mask_of(lot) for lot in lots])


def are_lots(many, thing):
    """Whether the thing is a list of lists of different places."""
    if not isinstance(thing, list):
        return False
    return all([isinstance(lot, list) and are_places(many, lot) and len(set(lot)) == len(lot) for lot in thing])


def are_places(many, things):
    """Whether all these things are places."""
    return all([is_integer_within(thing, 0, many - 1) for thing in things])


def has_all_pairs(arrows, masks):
    """Whether the pairs of the masks are all that are asked for."""
    return (all([mask >> place & 1 for place, mask in enumerate(masks)])
            and all([masks[place] >> goal & 1 for place, letter, goal in arrows if letter == ""])
            and all([masks[goal] & ~mask == 0 for mask in masks for goal in bits(mask)])
            and has_all_around(arrows, masks))


def has_all_around(arrows, masks):
    """Whether with each pair those are there that lie around it with two letters that undo one another."""
    for place, letter, first in arrows:
        for last, second, goal in arrows:
            if letter != "" and second == letter.swapcase() and masks[first] >> last & 1:
                if not masks[place] >> goal & 1:
                    return False
    return True


def shuts(arrows, masks, one, lots):
    """Whether the lots have all that the letters of the net lead to, and the last place is not reached."""
    if len(lots) != len(one) + 1 or masks[0] & ~lots[0] or lots[-1] >> 1 & 1:
        return False
    return all([mask_led(arrows, masks, lots[at], letter) & ~lots[at + 1] == 0 for at, letter in enumerate(one)])
