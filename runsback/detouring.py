"""Detours: which places lead to which along rows of arrows with an empty net.

Lots of places are kept as MASKS, integers in which the bit with the number of a
place tells whether the place is in the lot: flows and automata have so many pairs
of places that going over them one by one would take too long.
"""


def bits(mask):
    """The ascending list of the places of a mask."""
    places = []
    rest = mask
    while rest:
        low = rest & -rest
        places.append(low.bit_length() - 1)
        rest ^= low
    return places


def mask_of(places):
    """The mask of a list of places."""
    mask = 0
    for place in places:
        mask |= 1 << place
    return mask


def detour_masks(many, arrows):
    """For each of so many places the mask of those to which detours lead from it."""
    weave = Weave(many)
    into = arrows_into(many, arrows)
    from_place = arrows_from(many, arrows)
    for place, letter, goal in arrows:
        if letter == "":
            weave.link(place, goal)
    while weave.fresh:
        first, last = weave.fresh.pop()
        for place, letter in into[first]:
            for goal in from_place[last].get(letter.swapcase(), []):
                weave.link(place, goal)
    return weave.forward


def arrows_into(many, arrows):
    """For each place the pairs of the first place and the letter of the arrows to it, no letter left out."""
    into = [[] for _ in range(many)]
    for place, letter, goal in arrows:
        if letter != "":
            into[goal].append((place, letter))
    return into


def arrows_from(many, arrows):
    """For each place the dict from letters to the last places of the arrows from it."""
    led = [{} for _ in range(many)]
    for place, letter, goal in arrows:
        led[place].setdefault(letter, []).append(goal)
    return led


def mask_led(arrows, masks, lot, letter):
    """The places to which a letter, and pairs behind it, lead a lot of places."""
    led = 0
    for place, told, goal in arrows:
        if told == letter and lot >> place & 1:
            led |= masks[goal]
    return led


def leads_along(many, arrows, start, goal, one):
    """Whether rows of arrows with this net lead from a place to another one."""
    masks = detour_masks(many, arrows)
    lot = masks[start]
    for letter in one:
        lot = mask_led(arrows, masks, lot, letter)
    return (lot >> goal) & 1 == 1


class Weave:
    """The pairs of places that are known to be detours, those that follow by putting together included."""

    def __init__(self, many):
        self.forward = [1 << place for place in range(many)]
        self.backward = [1 << place for place in range(many)]
        self.fresh = [(place, place) for place in range(many)]

    def link(self, place, goal):
        """Take up a pair, and with it all pairs that it makes together with others."""
        if self.forward[place] >> goal & 1:
            return
        reach = self.forward[goal]
        firsts = bits(self.backward[place])
        for first in firsts:
            added = reach & ~self.forward[first]
            self.forward[first] |= added
            self.note(first, bits(added))

    def note(self, first, goals):
        """Remember that pairs from a place to goals are fresh."""
        for goal in goals:
            self.backward[goal] |= 1 << first
            self.fresh.append((first, goal))
