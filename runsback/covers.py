"""What a program can bring about in one finite world."""

from runsback.demands import demand_same_deeds
from runsback.flows import flow
from runsback.kinds import are_pairs_below
from runsback.moving import letter_moves, plan_move
from runsback.planning import plan_along
from runsback.plans import demand_plan
from runsback.worlds import demand_standing


def ended(world, program, plan, standing):
    """The standing to which the run by the plan leads a standing."""
    demand_same_deeds(world, program)
    demand_plan(program, plan)
    demand_standing(world, standing)
    return plan_move(program.parts, letter_moves(world), program.body, plan)[standing]


def reached(world, program, standing):
    """The ascending list of the standings to which the program comes from a standing."""
    return [goal for place, goal in cover(world, program, standing) if place == 1]


def cover(world, program, standing):
    """The ascending list of the pairs of place and standing that come from place 0 and a standing."""
    demand_same_deeds(world, program)
    demand_standing(world, standing)
    return sorted(list(ways_from(world, program, standing)))


def way(world, program, standing, goal):
    """A plan of a run that leads from a standing to the goal, or None."""
    demand_same_deeds(world, program)
    demand_standing(world, standing)
    demand_standing(world, goal)
    ways = ways_from(world, program, standing)
    if (1, goal) not in ways:
        return None
    path = []
    pair, number = ways[(1, goal)]
    while number is not None:
        path.append(number)
        pair, number = ways[pair]
    return plan_along(program, path[::-1])


def is_cover(world, program, standing, thing):
    """Whether the thing is a list of pairs of place and standing that holds all that come."""
    demand_same_deeds(world, program)
    demand_standing(world, standing)
    many, arrows = flow(program)
    if not are_pairs_below(many, world.size, thing):
        return False
    told = {pair: True for pair in thing}
    leaving = arrows_leaving(many, arrows)
    moves = letter_moves(world)
    if (0, standing) not in told:
        return False
    return all([(goal, moves[letter][at]) in told for place, at in thing for _, letter, goal in leaving[place]])


def arrows_leaving(many, arrows):
    """For each place the triples of number, letter and last place of the arrows from it."""
    leaving = [[] for _ in range(many)]
    for number, (place, letter, goal) in enumerate(arrows):
        leaving[place].append((number, letter, goal))
    return leaving


def ways_from(world, program, standing):
    """The dict from all pairs that come to the pair ahead of each and the number of the arrow between them."""
    many, arrows = flow(program)
    leaving = arrows_leaving(many, arrows)
    moves = letter_moves(world)
    ways = {(0, standing): (None, None)}
    pairs = [(0, standing)]
    gone = 0
    while gone < len(pairs):
        place, at = pairs[gone]
        for number, letter, goal in leaving[place]:
            pair = (goal, moves[letter][at])
            if pair not in ways:
                ways[pair] = ((place, at), number)
                pairs.append(pair)
        gone += 1
    return ways
