"""Finite worlds: standings that deeds move one to one."""

from runsback.demands import demand_row_over, demand_same_deeds
from runsback.errors import BadWorld, NoStanding, TooLarge
from runsback.kinds import is_deeds, is_integer, is_integer_within
from runsback.moving import letter_moves, order_of, row_move

MOST_STANDINGS = 24
MOST_BESIDE = 2000


class World:
    """A world: for each deed the tuple of the standings to which it leads 0, 1, 2 and so on."""

    def __init__(self, deeds, moves):
        if not is_deeds(deeds):
            raise BadWorld("deeds")
        if not are_moves(deeds, moves):
            raise BadWorld("moves")
        self.deeds = deeds
        self.size = len(moves[deeds[0]])
        self._moves = dict(moves)

    @property
    def moves(self):
        """A new dict from the deeds to their tuples."""
        return dict(self._moves)

    def __eq__(self, other):
        return isinstance(other, World) and self.deeds == other.deeds and self._moves == other._moves


def world_of(deeds, moves):
    """A world with these right moves, however many standings it has."""
    world = World(deeds, {deed: (0,) for deed in deeds})
    # Who constructs a world is bound to few standings, who is given one is not.
    world.size = len(moves[deeds[0]])
    world._moves = dict(moves)
    return world


def led(world, standing, row):
    """The standing to which the row leads a standing."""
    demand_standing(world, standing)
    demand_row_over(world.deeds, row)
    moves = letter_moves(world)
    at = standing
    for letter in row:
        at = moves[letter][at]
    return at


def move_of(world, row):
    """The tuple of the standings to which the row leads 0, 1, 2 and so on."""
    demand_row_over(world.deeds, row)
    return row_move(letter_moves(world), row)


def order(world, row):
    """How often at least, from 1 on, the row is gone until each standing is led to itself."""
    return order_of(move_of(world, row))


def beside(one, other):
    """The world of the pairs of standings of two worlds."""
    demand_same_deeds(one, other)
    if one.size * other.size > MOST_BESIDE:
        raise TooLarge(MOST_BESIDE)
    here, there = one.moves, other.moves
    moves = {deed: tuple([goal * other.size + second for goal in here[deed] for second in there[deed]])
             for deed in one.deeds}
    return world_of(one.deeds, moves)


def demand_standing(world, thing):
    """Raise NoStanding for what is no standing of the world."""
    if not is_integer_within(thing, 0, world.size - 1):
        raise NoStanding()


def are_moves(deeds, thing):
    """Whether the thing is a dict from the deeds to tuples that move the same few standings one to one."""
    if not isinstance(thing, dict) or len(thing) != len(deeds) or not all([deed in thing for deed in deeds]):
        return False
    if not all([is_move(thing[deed]) for deed in deeds]):
        return False
    return all([len(thing[deed]) == len(thing[deeds[0]]) for deed in deeds])


def is_move(thing):
    """Whether the thing is a tuple that moves few standings one to one."""
    if not isinstance(thing, tuple) or not 1 <= len(thing) <= MOST_STANDINGS:
        return False
    return all([is_integer(standing) for standing in thing]) and sorted(thing) == list(range(len(thing)))
