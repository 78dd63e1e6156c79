"""Towers gone through at once: which standings come, and which ways are gone an odd number of times.

Lots of ways are kept as masks, integers in which the bit with the number of a way tells whether it is in the
lot. What is added is added modulo 2, so that two lots are added by the bits in which they are unlike.
"""

from runsback.nets import undoings
from runsback.webs import leads_of


class Stage:
    """The lots of standings that come from the starts of a tower, numbered, and the ways between them.

    turns and ways tell, for each letter and the number of each lot, the number of the lot behind the letter, and
    the mask of the way that it goes, which is 0 if no book is kept.
    """

    def __init__(self, worlds, starts, booked):
        deeds = worlds[0].deeds
        tables = [world.moves for world in worlds]
        lots = [starts]
        numbers = {starts: 0}
        self.turns = {deed: [] for deed in deeds}
        gone = 0
        while gone < len(lots):
            for deed in deeds:
                led = tuple([table[deed][standing] for table, standing in zip(tables, lots[gone])])
                self.turns[deed].append(numbers.setdefault(led, len(lots)))
                if self.turns[deed][-1] == len(lots):
                    lots.append(led)
            gone += 1
        self.ways = {}
        for number, deed in enumerate(deeds):
            self.number_ways(deed, number, len(deeds), booked)

    def number_ways(self, deed, number, step, booked):
        """Tell the turns of an undoing, and the masks of the ways that it and its deed go."""
        ahead = self.turns[deed]
        back = [0] * len(ahead)
        for lot, led in enumerate(ahead):
            back[led] = lot
        self.turns[deed.upper()] = back
        self.ways[deed] = [1 << (lot * step + number) if booked else 0 for lot in range(len(ahead))]
        self.ways[deed.upper()] = [self.ways[deed][lot] for lot in back]

    def gone(self, start, row):
        """The pair of the lot to which a row leads from a lot and the mask of the ways gone an odd number of times."""
        at = start
        mask = 0
        for letter in row:
            mask ^= self.ways[letter][at]
            at = self.turns[letter][at]
        return (at, mask)

    def wandered(self, web, start, span):
        """For each lot to which rows that the web keeps lead the start, the mask of one such row.

        By what the masks of two such rows may be unlike is given to the span: those of all ways round.
        """
        leads = leads_of(web)
        masks = {(0, start): 0}
        pairs = [(0, start)]
        gone = 0
        while gone < len(pairs):
            place, at = pairs[gone]
            for letter in leads[place]:
                pair = (leads[place][letter], self.turns[letter][at])
                mask = masks[(place, at)] ^ self.ways[letter][at]
                if pair in masks:
                    span.take(mask ^ masks[pair])
                else:
                    masks[pair] = mask
                    pairs.append(pair)
            gone += 1
        return {at: masks[(place, at)] for place, at in pairs if place == 0}


class Span:
    """What some masks make, any number of them being added."""

    def __init__(self):
        self.rows = {}

    def rest(self, mask):
        """What is left of a mask, less what is held: 0 just if it is held itself."""
        left = mask
        while left.bit_length() in self.rows:
            left ^= self.rows[left.bit_length()]
        return left

    def take(self, mask):
        """Take up a mask."""
        left = self.rest(mask)
        if left:
            self.rows[left.bit_length()] = left


def is_denied(tower, term, one):
    """Whether no net of a term, told in full, has the same stand in the tower as the net one has."""
    worlds, starts, booked = tower
    first, web, between, other, last = term
    stage = Stage(worlds, starts, booked)
    span = Span()
    goal, told = stage.gone(0, one)
    begin, ahead = stage.gone(0, first)
    finish, behind = stage.gone(goal, undoings(last))
    here = stage.wandered(web, begin, span)
    # From the end on, the second web is gone backward, which leads along the same ways.
    there = stage.wandered(other, finish, span)
    for at in here:
        led, middle = stage.gone(at, between)
        if led in there and span.rest(told ^ ahead ^ here[at] ^ middle ^ there[led] ^ behind) == 0:
            return False
    return True
