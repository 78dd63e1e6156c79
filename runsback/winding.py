"""Winding: rounds of a loop, gone forward and backward, that together make a row which the loop's web keeps.

A WORD is a sequence of integers: n from 1 on stands for the round with the number n - 1, -n for this one gone
backward. Rounds may have to be gone very often, in an order that is made of few pieces again and again; so the
words of these are put together, rather than the arrows along which they lead.
"""

from runsback.climbing import Climb, layers_along, pieces_along
from runsback.flows import Laying
from runsback.folding import undone_word
from runsback.planning import Trail


def wound_rounds(parts, block, one):
    """The pair of a list of plans of rounds and a list of pairs (number, times) of these, times being below 0, too.

    The rows of the rounds with these numbers, each so often, make the net one, one behind another.
    """
    winding = Winding(parts, block)
    pairs = []
    for number in winding.word_with_net(one):
        sign = 1 if number > 0 else -1
        if pairs and pairs[-1][0] == abs(number) - 1:
            pairs[-1] = (pairs[-1][0], pairs[-1][1] + sign)
        else:
            pairs.append((abs(number) - 1, sign))
    return ([Trail(parts, list(path)).block_plan(block, 0) for path in winding.paths], pairs)


class Winding:
    """A loop's block, laid from place 0 to itself, and the rounds that are used, as paths of arrows.

    AHEAD and BEHIND are a path from 0 to each place and one from there to 0. Each arrow stands for the word that
    makes the path ahead of it, the arrow, and the undone path ahead of its last place; so words of arrows that
    follow one another make the whole way.
    """

    def __init__(self, parts, block):
        laying = Laying(parts)
        laying.lay_block(block, 0, 0)
        self.many = laying.many
        self.arrows = laying.arrows
        self.ahead, self.behind = paths_from_and_to_0(laying)
        self.paths = {}

    def word_with_net(self, one):
        """A word that makes the net one, which the loop's web keeps.

        Behind the numbers of the arrows there are those of the same arrows, gone backward.
        """
        arrows = self.arrows + [(goal, letter.swapcase(), place) for place, letter, goal in self.arrows]
        prices = {letter: 1 for _, letter, _ in arrows}
        climb = Climb(self.many, arrows, prices)
        layers = layers_along(arrows, prices, climb.prices_of_detours(), one)
        pieces = pieces_along(climb, layers, 0)
        words = self.words_of(climb, pieces)
        return met_word([words[piece] for piece in pieces])

    def words_of(self, climb, pieces):
        """The dict from these pieces, and all that they are made of, to their words."""
        words = {}
        waiting = list(pieces)
        while waiting:
            piece = waiting.pop()
            if isinstance(piece, int):
                words[piece] = self.arrow_word(piece)
            elif piece not in words:
                words[piece] = []
                waiting.extend(climb.pieces[piece])
        # A detour stands behind all of which it is made.
        for pair in climb.sums:
            if pair in words:
                words[pair] = met_word([words[piece] for piece in climb.pieces[pair]])
        return words

    def arrow_word(self, number):
        """The word of an arrow."""
        if number >= len(self.arrows):
            return undone_word(self.arrow_word(number - len(self.arrows)))
        place, _, goal = self.arrows[number]
        through = self.path_word(self.ahead[place] + [number] + self.behind[goal])
        return met_word([through, undone_word(self.path_word(self.ahead[goal] + self.behind[goal]))])

    def path_word(self, path):
        """The word of a path from 0 to 0 that does not come by 0 between: a round, or nothing at all."""
        return [self.paths.setdefault(tuple(path), len(self.paths) + 1)] if path else []


def met_word(words):
    """Words one behind another, a round dropped where it meets itself gone backward."""
    kept = []
    for word in words:
        at = 0
        while at < len(word) and kept and kept[-1] == -word[at]:
            kept.pop()
            at += 1
        kept.extend(word[at:])
    return kept


def paths_from_and_to_0(laying):
    """For each place of a laid round a path of arrows from 0 to it, and a path from it to 0."""
    ahead = {0: []}
    behind = {0: []}
    # As they are laid, each arrow goes on from where another one has come, and comes to where another one goes on.
    for number, (place, _, goal) in enumerate(laying.arrows):
        ahead.setdefault(goal, ahead[place] + [number])
    for number in range(len(laying.arrows) - 1, -1, -1):
        place, _, goal = laying.arrows[number]
        behind.setdefault(place, [number] + behind[goal])
    return (ahead, behind)
