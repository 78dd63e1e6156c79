"""Games: two hands run a program in a finite world, and one of them wants to end at a goal."""

from runsback.covers import arrows_leaving
from runsback.demands import demand_same_deeds
from runsback.errors import NoGoals
from runsback.flows import laid
from runsback.kinds import is_integer, is_integer_within, is_pair_below
from runsback.moving import letter_moves
from runsback.worlds import demand_standing

END = 1


def wins(world, program, standing, goals):
    """Whether the own hand can make sure of ending at one of the goals."""
    demand_arguments(world, program, standing, goals)
    return (0, standing) in Game(world, program).won(goals)


def manner(world, program, standing, goals):
    """A manner by which the own hand wins, or None."""
    demand_arguments(world, program, standing, goals)
    found = Game(world, program).won(goals)
    return found if (0, standing) in found else None


def answer(world, program, standing, goals):
    """An answer by which the other hand keeps the own one from winning, or None."""
    demand_arguments(world, program, standing, goals)
    game = Game(world, program)
    won = game.won(goals)
    return None if (0, standing) in won else game.kept_from(won)


def is_manner(world, program, standing, goals, thing):
    """Whether the thing is a manner."""
    demand_arguments(world, program, standing, goals)
    game = Game(world, program)
    if not game.is_table(thing) or (0, standing) not in thing:
        return False
    if not all([is_move_with_rank(thing[pair]) for pair in thing]):
        return False
    return all([leads_down(game, goals, thing, pair) for pair in thing])


def is_answer(world, program, standing, goals, thing):
    """Whether the thing is an answer."""
    demand_arguments(world, program, standing, goals)
    game = Game(world, program)
    if not game.is_table(thing) or (0, standing) not in thing:
        return False
    return all([stays_within(game, goals, thing, pair) for pair in thing])


def demand_arguments(world, program, standing, goals):
    """Raise an error for unlike deeds, for what is no standing, or for what are no goals."""
    demand_same_deeds(world, program)
    demand_standing(world, standing)
    if not are_goals(world, goals):
        raise NoGoals()


def are_goals(world, thing):
    """Whether the thing is an ascending tuple of different standings."""
    if not isinstance(thing, tuple) or not all([is_integer_within(goal, 0, world.size - 1) for goal in thing]):
        return False
    return all([one < two for one, two in zip(thing, thing[1:])])


def is_move_with_rank(thing):
    """Whether the thing is a pair of anything and a rank."""
    return isinstance(thing, tuple) and len(thing) == 2 and is_integer(thing[1]) and thing[1] >= 0


def leads_down(game, goals, told, pair):
    """Whether the manner that is told leads on from a pair as it has to."""
    number, rank = told[pair]
    if pair[0] == END:
        return number is None and pair[1] in goals
    if game.is_own(pair[0]):
        chosen = game.pairs_by(number, pair)
    else:
        chosen = game.pairs_behind(pair) if number is None else []
    return len(chosen) > 0 and all([behind in told and told[behind][1] < rank for behind in chosen])


def stays_within(game, goals, told, pair):
    """Whether the answer that is told leads on from a pair as it has to."""
    number = told[pair]
    if pair[0] == END:
        return number is None and pair[1] not in goals
    if game.is_own(pair[0]):
        chosen = game.pairs_behind(pair) if number is None else []
    else:
        chosen = game.pairs_by(number, pair)
    return len(chosen) > 0 and all([behind in told for behind in chosen])


class Game:
    """The pairs of place and standing at which a game may stand, and the arrows between them."""

    def __init__(self, world, program):
        laying = laid(program)
        self.many = laying.many
        self.size = world.size
        self.others = {place: True for place in laying.others}
        self.leaving = arrows_leaving(laying.many, laying.arrows)
        self.letters = letter_moves(world)

    def is_own(self, place):
        """Whether a place is not the other hand's."""
        return place not in self.others

    def is_table(self, thing):
        """Whether the thing is a dict from pairs of place and standing."""
        return isinstance(thing, dict) and all([is_pair_below(self.many, self.size, pair) for pair in thing])

    def pairs_behind(self, pair):
        """The pairs behind all arrows from a pair."""
        place, standing = pair
        return [(goal, self.letters[letter][standing]) for _, letter, goal in self.leaving[place]]

    def pairs_by(self, thing, pair):
        """The list of the pair behind the arrow with this number, empty if no such arrow leads from the pair."""
        place, standing = pair
        return [(goal, self.letters[letter][standing]) for number, letter, goal in self.leaving[place]
                if is_integer(thing) and number == thing]

    def arrows_into(self):
        """For each place the triples of number, first place and letter of the arrows to it."""
        into = [[] for _ in self.leaving]
        for place, led in enumerate(self.leaving):
            for number, letter, goal in led:
                into[goal].append((number, place, letter))
        return into

    def won(self, goals):
        """The manner with all pairs from which the own hand wins, ranked in the order in which they are found."""
        into = self.arrows_into()
        waiting = [((END, goal), None) for goal in goals]
        left = {}
        found = {}
        gone = 0
        while gone < len(waiting):
            pair, told = waiting[gone]
            gone += 1
            if pair not in found:
                found[pair] = (told, len(found))
                for number, place, letter in into[pair[0]]:
                    ahead = (place, self.letters[letter.swapcase()][pair[1]])
                    if self.is_own(place):
                        waiting.append((ahead, number))
                    else:
                        # The other hand must go to a pair that is won once all its arrows lead to such.
                        left[ahead] = left.get(ahead, len(self.leaving[place])) - 1
                        if left[ahead] == 0:
                            waiting.append((ahead, None))
        return found

    def kept_from(self, won):
        """The answer with all pairs that are not won."""
        pairs = [(place, standing) for place in range(self.many) for standing in range(self.size)]
        return {pair: self.way_out(won, pair) for pair in pairs if pair not in won}

    def way_out(self, won, pair):
        """The number of an arrow by which the other hand keeps to pairs that are not won, None at other places."""
        place, standing = pair
        if self.is_own(place):
            return None
        free = [number for number, letter, goal in self.leaving[place]
                if (goal, self.letters[letter][standing]) not in won]
        return free[0]
