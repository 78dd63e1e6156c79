"""Tables: how a row is made of other rows, line by line."""

from runsback.demands import demand_row_over, demand_rows_over
from runsback.errors import TooLong
from runsback.folding import Folding
from runsback.kinds import is_integer
from runsback.nets import met_net, reduced, undoings
from runsback.webs import MOST_LETTERS, MOST_ROWS, rounds_from_0

MOST_NET = 5000
MOST_LINES = 1000
MOST_NUMBERS = 1000
FEWER_NUMBERS = 500


def product(deeds, rows, row):
    """A table for the row over the rows, or None if these do not make it."""
    demand_arguments(deeds, rows, row)
    folding = folded_rounds([reduced(one) for one in rows])
    leads = leads_with_words(folding)
    numbers = []
    place = 0
    for letter in reduced(row):
        if letter not in leads[place]:
            return None
        place, word = leads[place][letter]
        numbers.extend(list(word))
    if place != 0:
        return None
    return tuple(folding.lines + last_lines(tuple(numbers), len(rows) + len(folding.lines)))


def is_product(deeds, rows, row, thing):
    """Whether the thing is a table for the row over the rows."""
    demand_arguments(deeds, rows, row)
    if not isinstance(thing, tuple) or not 1 <= len(thing) <= MOST_LINES:
        return False
    nets = [reduced(one) for one in rows]
    for line in thing:
        if not is_line(len(nets), line):
            return False
        one = met_net([nets[number - 1] if number > 0 else undoings(nets[-number - 1]) for number in line])
        if len(one) > MOST_NET:
            return False
        nets.append(one)
    return nets[-1] == reduced(row)


def demand_arguments(deeds, rows, row):
    """Raise an error for what are no deeds, no such rows, no row over the deeds, or too long a row."""
    demand_rows_over(deeds, rows, MOST_ROWS, MOST_LETTERS)
    demand_row_over(deeds, row)
    if len(reduced(row)) > MOST_NET:
        raise TooLong(MOST_NET)


def is_line(many, thing):
    """Whether the thing is a line behind so many rows and lines."""
    if not isinstance(thing, tuple) or len(thing) > MOST_NUMBERS:
        return False
    return all([is_integer(number) and number != 0 and abs(number) <= many for number in thing])


def folded_rounds(nets):
    """The folding of rounds from 0 to 0, one with each net, the last arrow of each having the word for its row.

    So each place stands for a beginning of one of the nets, and the net of each line that is put down is short.
    """
    many, arrows = rounds_from_0(nets)
    folding = Folding(many, len(nets))
    number = 0
    for at, one in enumerate(nets):
        for k in range(len(one)):
            place, letter, goal = arrows[number]
            folding.add_arrow(place, letter, goal, (at + 1,) if k == len(one) - 1 else ())
            number += 1
    return folding


def leads_with_words(folding):
    """For each place a dict from letters to pairs: the place to which one leads, and its word, one integer at most.

    The words on the way from 0 to 0 make, one behind another, the row of the letters on the way.
    """
    leads = []
    for led in folding.led:
        step = {}
        for letter in led:
            word = folding.short_word(folding.full_word(led[letter]))
            step[letter] = (folding.top(led[letter][1])[0], word)
        leads.append(step)
    return leads


def last_lines(numbers, many):
    """Lines of which the last one makes what the integers make, behind so many rows and lines.

    Integers that are too many for one line are put down in pieces. Each piece leaves so many of them to the
    others, and with them so many letters of the row, that its own net stays below the bound.
    """
    if len(numbers) <= MOST_NUMBERS:
        return [numbers]
    lines = [numbers[at:at + FEWER_NUMBERS] for at in range(0, len(numbers), FEWER_NUMBERS)]
    return lines + [tuple([many + at + 1 for at in range(len(lines))])]
