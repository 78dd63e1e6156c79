"""Two lots of nets gone through at once, letter by letter."""

from runsback.nets import letters_over

# Stands for the state of a lot in which a row does not go on.
GONE = -1


def led_pairs(one, other):
    """The pairs of states to which rows lead in two lots at once, and the steps between their numbers.

    Where the row goes on in one of both alone, GONE stands for the state of the other one. The
    pairs stand in the order of the earliest rows that lead to them.
    """
    letters = letters_over(one.deeds)
    steps, others = one.steps, other.steps
    pairs = [(0, 0)]
    numbers = {(0, 0): 0}
    told = []
    while len(told) < len(pairs):
        state, second = pairs[len(told)]
        here = {} if state == GONE else steps[state]
        there = {} if second == GONE else others[second]
        step = {}
        for letter in letters:
            led = (here.get(letter, GONE), there.get(letter, GONE))
            if led != (GONE, GONE):
                step[letter] = numbers.setdefault(led, len(pairs))
                if step[letter] == len(pairs):
                    pairs.append(led)
        told.append(step)
    return (pairs, told)


def first_beyond(one, other):
    """The earliest net that belongs to the one lot and not to the other one, or None."""
    pairs, steps = led_pairs(one, other)
    here = set(one.ends)
    there = set(other.ends)
    for number, (state, second) in enumerate(pairs):
        if state in here and second not in there:
            return earliest_row(letters_over(one.deeds), steps, number)
    return None


def earliest_row(letters, steps, goal):
    """The earliest row that leads from 0 to the goal, the steps being numbered in the order of such rows."""
    before = {0: (0, "")}
    for state, step in enumerate(steps):
        for letter in letters:
            if letter in step and step[letter] not in before:
                before[step[letter]] = (state, letter)
    row = []
    state = goal
    while state != 0:
        state, letter = before[state]
        row.append(letter)
    return "".join(row[::-1])
