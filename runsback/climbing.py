"""Least sums of prices: along detours, and along rows of arrows with a given net."""

from heapq import heappop, heappush


class Climb:
    """The least sums of all detours between so many places, and of what each of them is made.

    A sum is a pair (price, arrows): of detours with the same price those with fewer arrows count as
    cheaper, so that none goes in circles for nothing. A detour is made of PIECES: numbers of arrows and
    detours. As it never has a lesser sum than one that is a piece of it, the least of all sums that are
    offered is a right one.
    """

    def __init__(self, many, arrows, prices):
        self.arrows = arrows
        self.prices = prices
        self.sums = {}
        self.offers = {}
        self.pieces = {}
        self.queue = []
        self.firsts = [[] for _ in range(many)]
        self.lasts = [[] for _ in range(many)]
        self.into = [[] for _ in range(many)]
        self.out_of = [{} for _ in range(many)]
        for number, (place, letter, goal) in enumerate(arrows):
            if letter == "":
                self.offer(place, goal, (0, 1), (number,))
            else:
                self.into[goal].append(number)
                self.out_of[place].setdefault(letter, []).append(number)
        for place in range(many):
            self.offer(place, place, (0, 0), ())
        while self.queue:
            total, pair = heappop(self.queue)
            if pair not in self.sums:
                self.sums[pair] = total
                self.spread(pair[0], pair[1])

    def offer(self, place, goal, total, pieces):
        """Take up that a detour may be made of these pieces, with this sum."""
        pair = (place, goal)
        if pair not in self.offers or total < self.offers[pair]:
            self.offers[pair] = total
            self.pieces[pair] = pieces
            heappush(self.queue, (total, pair))

    def spread(self, place, goal):
        """Offer all detours that are made with this one, whose sum is the least one now."""
        total = self.sums[(place, goal)]
        for first in self.firsts[place]:
            self.offer(first, goal, added(self.sums[(first, place)], total), ((first, place), (place, goal)))
        for last in self.lasts[goal]:
            self.offer(place, last, added(total, self.sums[(goal, last)]), ((place, goal), (goal, last)))
        self.lasts[place].append(goal)
        self.firsts[goal].append(place)
        for number in self.into[place]:
            start, letter, _ = self.arrows[number]
            undoing = letter.swapcase()
            more = (self.prices[letter] + self.prices[undoing], 2)
            for second in self.out_of[goal].get(undoing, []):
                self.offer(start, self.arrows[second][2], added(total, more), (number, (place, goal), second))

    def prices_of_detours(self):
        """The dict from all detours to their least prices."""
        return {pair: self.sums[pair][0] for pair in self.sums}

    def route(self, pieces):
        """The numbers of the arrows along pieces that stand one behind another, cheapest detours among them."""
        found = []
        waiting = pieces[::-1]
        while waiting:
            piece = waiting.pop()
            if isinstance(piece, int):
                found.append(piece)
            else:
                waiting.extend(self.pieces[piece][::-1])
        return found


def added(one, other):
    """The sum of two sums."""
    return (one[0] + other[0], one[1] + other[1])


def layers_along(arrows, prices, floor, one):
    """The least sums of prices behind the beginnings of a net, the floor telling those of detours.

    For each beginning a dict from places to pairs: the sum, and the number of the arrow with the last letter.
    """
    lasts = {}
    for place, goal in floor:
        lasts.setdefault(place, []).append(goal)
    layers = [behind_detours(floor, lasts, {0: (0, None)})]
    for letter in one:
        arrived = {}
        for number, (place, told, goal) in enumerate(arrows):
            if told == letter and place in layers[-1]:
                keep_least(arrived, goal, (layers[-1][place][0] + prices[letter], number))
        layers.append(behind_detours(floor, lasts, arrived))
    return layers


def behind_detours(floor, lasts, arrived):
    """The pairs behind detours from the places at which one has arrived."""
    layer = {}
    for place in arrived:
        total, number = arrived[place]
        for goal in lasts.get(place, []):
            keep_least(layer, goal, (total + floor[(place, goal)], number))
    return layer


def keep_least(layer, place, pair):
    """Keep a pair for a place if there is none yet whose sum is as little."""
    if place not in layer or pair[0] < layer[place][0]:
        layer[place] = pair


def path_along(climb, layers, goal):
    """The numbers of the arrows of a cheapest run from place 0 to the goal, along the layers for its net."""
    return climb.route(pieces_along(climb, layers, goal))


def pieces_along(climb, layers, goal):
    """The pieces of a cheapest run from place 0 to the goal, along the layers for its net."""
    pieces = []
    place = goal
    for layer in layers[:0:-1]:
        number = layer[place][1]
        start, _, behind = climb.arrows[number]
        pieces.append((behind, place))
        pieces.append(number)
        place = start
    pieces.append((0, place))
    return pieces[::-1]
