"""Sums: what programs bring about in worlds in which deeds change places."""

from runsback.demands import demand_row_over
from runsback.errors import NoDeeds, NoNumber, NoWeights
from runsback.kinds import is_deeds, is_integer, is_integer_within
from runsback.lattices import dividing_weights, rest_of, triangle
from runsback.rings import terms
from runsback.webs import basis
from runsback.worlds import world_of

MOST_STANDINGS = 1000


def sum_of(deeds, row):
    """How often each deed stands in the row, less how often its undoing does."""
    if not is_deeds(deeds):
        raise NoDeeds()
    demand_row_over(deeds, row)
    return tuple([row.count(deed) - row.count(deed.upper()) for deed in deeds])


def sure_sums(program, row):
    """Whether there is a sum paper for the row."""
    return sum_paper(program, row) is not None


def sum_paper(program, row):
    """The pair of the number of a term and how often each row of its bases is taken, or None."""
    demand_row_over(program.deeds, row)
    width = len(program.deeds)
    for number, term in enumerate(terms(program)):
        vectors = sums_of_bases(program.deeds, term)
        rest = rest_of(triangle(width, vectors), len(vectors), sum_left(program.deeds, term, row))
        if not any(rest[:width]):
            return (number, tuple([-times for times in rest[width:]]))
    return None


def is_sum_paper(program, row, thing):
    """Whether the thing is a sum paper for the row."""
    demand_row_over(program.deeds, row)
    found = terms(program)
    if not isinstance(thing, tuple) or len(thing) != 2 or not is_integer_within(thing[0], 0, len(found) - 1):
        return False
    number, times = thing
    vectors = sums_of_bases(program.deeds, found[number])
    if not isinstance(times, tuple) or len(times) != len(vectors) or not all([is_integer(many) for many in times]):
        return False
    left = sum_left(program.deeds, found[number], row)
    made = [sum([many * vector[at] for many, vector in zip(times, vectors)]) for at in range(len(left))]
    return made == list(left)


def sum_denial(program, row):
    """A list with a pair of m and weights for each term, or None if there is a sum paper."""
    demand_row_over(program.deeds, row)
    width = len(program.deeds)
    found = []
    for term in terms(program):
        vectors = sums_of_bases(program.deeds, term)
        steps = triangle(width, vectors)
        rest = rest_of(steps, len(vectors), sum_left(program.deeds, term, row))
        if not any(rest[:width]):
            return None
        found.append(dividing_weights(steps, rest))
    return found


def is_sum_denial(program, row, thing):
    """Whether the thing is a sum denial for the row."""
    demand_row_over(program.deeds, row)
    found = terms(program)
    if not isinstance(thing, list) or len(thing) != len(found):
        return False
    if not all([is_weighing(len(program.deeds), pair) for pair in thing]):
        return False
    return all([denies(program.deeds, term, row, pair) for term, pair in zip(found, thing)])


def sum_world(deeds, m, weights):
    """The world in which each deed leads a standing on by its weight, from 0 again behind m - 1."""
    if not is_deeds(deeds):
        raise NoDeeds()
    if not is_integer_within(m, 2, MOST_STANDINGS):
        raise NoNumber()
    if not are_weights(len(deeds), m, weights):
        raise NoWeights()
    return world_of(deeds, {deed: tuple([(standing + weight) % m for standing in range(m)])
                            for deed, weight in zip(deeds, weights)})


def sums_of_bases(deeds, term):
    """The sums of the rows of the bases of a term's webs, in order."""
    return [sum_of(deeds, row) for web in term[1] for row in basis(web)]


def sum_left(deeds, term, row):
    """The sum of the row, less those of the rows of a term."""
    rows = "".join(term[0])
    return tuple([one - two for one, two in zip(sum_of(deeds, row), sum_of(deeds, rows))])


def are_weights(many, m, thing):
    """Whether the thing is a tuple of so many integers from 0 to m - 1."""
    return isinstance(thing, tuple) and len(thing) == many and all([is_integer_within(one, 0, m - 1) for one in thing])


def is_weighing(many, thing):
    """Whether the thing is a pair of an integer m from 2 on and so many weights."""
    if not isinstance(thing, tuple) or len(thing) != 2 or not is_integer(thing[0]) or thing[0] < 2:
        return False
    return are_weights(many, thing[0], thing[1])


def denies(deeds, term, row, pair):
    """Whether the weights show that the row does not have the sum of a net of the term."""
    m, weights = pair
    if any([weight_of(weights, vector) % m != 0 for vector in sums_of_bases(deeds, term)]):
        return False
    return weight_of(weights, sum_left(deeds, term, row)) % m != 0


def weight_of(weights, vector):
    """The weight of a sum."""
    return sum([weight * number for weight, number in zip(weights, vector)])
