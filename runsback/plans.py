"""Plans: the runs of a program told, and the rows that they do."""

from runsback.errors import NoPlan, TooLong
from runsback.kinds import is_integer, is_integer_within
from runsback.nets import met_net, reduced, repeated_length, repeated_net, undoings
from runsback.statements import inner_block

MOST_LETTERS = 5000


def is_plan(program, thing):
    """Whether the thing is a plan of the program."""
    return fits_block(program.parts, program.body, thing)


def letters_of(program, plan):
    """How many letters the row has that the run does."""
    demand_plan(program, plan)
    return block_letters(program.parts, program.body, plan)


def row_of(program, plan):
    """The row that the run does."""
    demand_plan(program, plan)
    if block_letters(program.parts, program.body, plan) > MOST_LETTERS:
        raise TooLong(MOST_LETTERS)
    return block_row(program.parts, program.body, plan)


def net_of(program, plan):
    """The net of the row that the run does."""
    demand_plan(program, plan)
    return block_net(program.parts, program.body, plan)


def demand_plan(program, thing):
    """Raise NoPlan for what is no plan of the program."""
    if not is_plan(program, thing):
        raise NoPlan()


def fits_block(parts, block, thing):
    """Whether the thing is a plan of the block."""
    if not isinstance(thing, tuple) or len(thing) != len(block):
        return False
    return all([fits(parts, statement, item) for statement, item in zip(block, thing)])


def fits(parts, statement, thing):
    """Whether the thing is what a plan has for the statement."""
    word, inner = statement
    if not isinstance(thing, tuple):
        return False
    if word == "do":
        return len(thing) == 0
    if word in ("either", "other"):
        return (len(thing) == 2 and is_integer_within(thing[0], 0, len(inner) - 1)
                and fits_block(parts, inner[thing[0]], thing[1]))
    if word == "loop":
        return all([is_pair_of_rounds(parts, inner, pair) for pair in thing])
    return fits_block(parts, inner_block(parts, statement), thing)


def is_pair_of_rounds(parts, block, thing):
    """Whether the thing tells rounds of a loop with this block."""
    if not isinstance(thing, tuple) or len(thing) != 2:
        return False
    return is_integer(thing[1]) and thing[1] >= 1 and fits_block(parts, block, thing[0])


def block_letters(parts, block, plan):
    """How many letters a run of a block does."""
    return sum([letters_in(parts, statement, item) for statement, item in zip(block, plan)])


def letters_in(parts, statement, item):
    """How many letters a run of a statement does."""
    word, inner = statement
    if word == "do":
        return len(inner)
    if word in ("either", "other"):
        return block_letters(parts, inner[item[0]], item[1])
    if word == "loop":
        return sum([block_letters(parts, inner, plan) * times for plan, times in item])
    return block_letters(parts, inner_block(parts, statement), item)


def block_row(parts, block, plan):
    """The row that a run of a block does."""
    return "".join([row_in(parts, statement, item) for statement, item in zip(block, plan)])


def row_in(parts, statement, item):
    """The row that a run of a statement does."""
    word, inner = statement
    if word == "do":
        return inner
    if word in ("either", "other"):
        return block_row(parts, inner[item[0]], item[1])
    if word == "loop":
        return "".join([repeated_row(block_row(parts, inner, plan), times) for plan, times in item])
    row = block_row(parts, inner_block(parts, statement), item)
    return undoings(row) if word == "undo" else row


def repeated_row(row, times):
    """The row so often; the empty one may be repeated more often than Python can."""
    return row * times if row else ""


def block_net(parts, block, plan):
    """The net of the row that a run of a block does, which must be short."""
    nets = []
    for statement, item in zip(block, plan):
        nets.extend(nets_in(parts, statement, item))
    return short_net(met_net(nets))


def nets_in(parts, statement, item):
    """Nets that, one behind another, make the row that a run of a statement does."""
    word, inner = statement
    if word == "do":
        return [reduced(inner)]
    if word in ("either", "other"):
        return [block_net(parts, inner[item[0]], item[1])]
    if word == "loop":
        # The rounds of all pairs together are told by no limit, so they stay apart.
        return [short_power(block_net(parts, inner, plan), times) for plan, times in item]
    one = block_net(parts, inner_block(parts, statement), item)
    return [undoings(one) if word == "undo" else one]


def short_net(one):
    """The net, unless it is too long."""
    if len(one) > MOST_LETTERS:
        raise TooLong(MOST_LETTERS)
    return one


def short_power(one, times):
    """The net that comes of a net so often, unless it is too long."""
    if repeated_length(one, times) > MOST_LETTERS:
        raise TooLong(MOST_LETTERS)
    return repeated_net(one, times)
