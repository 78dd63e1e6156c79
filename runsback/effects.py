"""Effects: lots of nets, told by the fewest states."""

from runsback.demands import demand_row_over, demand_rows_over
from runsback.errors import NoNumber, TooLong
from runsback.flows import flow
from runsback.kinds import is_integer_within
from runsback.nets import letters_over, reduced
from runsback.reckoning import reckoned

MOST_LETTERS = 5000
MOST_NUMBER = 10 ** 30


class Effects:
    """A lot of nets over deeds."""

    def __init__(self, deeds, steps, ends):
        self.deeds = deeds
        self.ends = tuple(ends)
        self._steps = [dict(step) for step in steps]

    @property
    def steps(self):
        """A new list with a new dict for each state from letters to states."""
        return [dict(step) for step in self._steps]

    def __eq__(self, other):
        return (isinstance(other, Effects) and self.deeds == other.deeds and self._steps == other._steps
                and self.ends == other.ends)


def effects(program):
    """The effects of a program."""
    places, arrows = flow(program)
    return lot_along(program.deeds, places, arrows, 0, 1)


def lot_of(deeds, rows):
    """The lot of the nets of the rows of a list or tuple."""
    demand_rows_over(deeds, rows, 20, 12)
    arrows = []
    places = 2
    for row in rows:
        stops = [0] + [places + k for k in range(len(row))] + [1]
        places += len(row)
        letters = list(row) + [""]
        arrows.extend([(stops[k], letters[k], stops[k + 1]) for k in range(len(letters))])
    return lot_along(deeds, places, arrows, 0, 1)


def lot_along(deeds, places, arrows, start, goal):
    """The nets of the rows along arrows, between so many places, from a place to another one."""
    steps, ends = reckoned(deeds, places, arrows, start, goal)
    return Effects(deeds, steps, ends)


def has(lot, row):
    """Whether the net of the row belongs to the lot."""
    demand_row_over(lot.deeds, row)
    steps = lot.steps
    state = 0
    for letter in reduced(row):
        if letter not in steps[state]:
            return False
        state = steps[state][letter]
    return state in lot.ends


def first(lot):
    """The earliest net of the lot, or None."""
    return at(lot, 0)


def many(lot):
    """The number of the nets of the lot, or None if there is no end of them."""
    steps = lot.steps
    ways = {0: 1}
    total = 0
    for _ in steps:
        total += ways_at_ends(lot, ways)
        ways = led_ways(steps, ways)
    # Whoever goes as many letters as there are states comes to one of them twice, and so without end.
    return None if ways else total


def count(lot, length):
    """The number of the nets of the lot with just so many letters."""
    if not is_integer_within(length, 0, 1000):
        raise NoNumber()
    steps = lot.steps
    ways = {0: 1}
    for _ in range(length):
        ways = led_ways(steps, ways)
    return ways_at_ends(lot, ways)


def at(lot, number):
    """The net of the lot with this number, earlier ones first, or None."""
    if not is_integer_within(number, 0, MOST_NUMBER):
        raise NoNumber()
    total = many(lot)
    if total is not None and number >= total:
        return None
    targets = [list(step.values()) for step in lot.steps]
    rests = [[1 if state in lot.ends else 0 for state in range(len(targets))]]
    ahead = number
    while ahead >= rests[-1][0]:
        if len(rests) > MOST_LETTERS:
            raise TooLong(MOST_LETTERS)
        ahead -= rests[-1][0]
        last = rests[-1]
        rests.append([sum([last[state] for state in led]) for led in targets])
    return picked(lot, rests, ahead)


def picked(lot, rests, number):
    """The net with this number among those with one letter fewer than there are rests.

    rests[k] tells for each state how many nets lead from there to ends by k letters.
    """
    letters = letters_over(lot.deeds)
    steps = lot.steps
    ahead = number
    state = 0
    row = []
    for rest in rests[-2::-1]:
        for letter in [told for told in letters if told in steps[state]]:
            led = steps[state][letter]
            if ahead < rest[led]:
                row.append(letter)
                state = led
                break
            ahead -= rest[led]
    return "".join(row)


def led_ways(steps, ways):
    """By how many rows each state is reached, one letter behind the states with these ways."""
    fresh = {}
    for state in ways:
        for led in steps[state].values():
            fresh[led] = fresh.get(led, 0) + ways[state]
    return fresh


def ways_at_ends(lot, ways):
    """By how many rows the ends of the lot are reached."""
    return sum([ways.get(end, 0) for end in lot.ends])
