"""How effects are reckoned: from arrows between places to the fewest states.

STEPS are a list with a dict for each state from letters to states, as in Effects;
state 0 is the first one.
"""

from runsback.detouring import bits, detour_masks
from runsback.errors import TooLarge
from runsback.nets import letters_over

MOST_STATES = 300


def reckoned(deeds, many, arrows, start, goal):
    """The pair (steps, ends) for the nets of the rows along arrows from a place to another one."""
    letters = letters_over(deeds)
    masks = detour_masks(many, arrows)
    moves = {letter: [0] * many for letter in letters}
    for place, letter, led in arrows:
        if letter != "":
            moves[letter][place] |= masks[led]
    useful = useful_masks(letters, moves, 1 << goal)
    steps, ends = explored(letters, moves, masks[start], goal, useful)
    return merged(letters, steps, ends)


def useful_masks(letters, moves, goals):
    """For each last letter of a net, and "" for none, the places from which a longer net leads to the goals.

    Without it lots of places would be gone through from which no net leads on.
    """
    useful = {letter: goals for letter in letters}
    useful[""] = goals
    while True:
        before = {letter: mask_before(moves[letter], useful[letter]) for letter in letters}
        fresh = {last: goals | mask_behind(letters, before, last) for last in useful}
        if fresh == useful:
            return useful
        useful = fresh


def mask_before(leads, mask):
    """The places that a letter leads to some place of the mask."""
    found = 0
    for place, led in enumerate(leads):
        if led & mask:
            found |= 1 << place
    return found


def mask_behind(letters, before, last):
    """The places from which some letter leads on that does not undo the last one."""
    found = 0
    for letter in letters:
        if letter != last.swapcase():
            found |= before[letter]
    return found


def explored(letters, moves, start, goal, useful):
    """The pair (steps, ends) of all lots of useful places to which nets lead."""
    lots = [("", start & useful[""])]
    numbers = {lots[0]: 0}
    steps = []
    while len(steps) < len(lots):
        last, lot = lots[len(steps)]
        step = {}
        for letter in letters:
            led = led_mask(moves[letter], lot) & useful[letter]
            if led and letter != last.swapcase():
                step[letter] = numbers.setdefault((letter, led), len(lots))
                if step[letter] == len(lots):
                    lots.append((letter, led))
        steps.append(step)
    return (steps, [state for state, pair in enumerate(lots) if pair[1] >> goal & 1])


def led_mask(leads, lot):
    """The places to which a letter leads a lot of places."""
    found = 0
    for place in bits(lot):
        found |= leads[place]
    return found


def trimmed(steps, ends):
    """The pair (steps, ends) without the states from which no end is reached."""
    alive = alive_states(steps, ends)
    if 0 not in alive:
        return ([{}], [])
    kept = sorted(list(alive))
    numbers = {state: number for number, state in enumerate(kept)}
    fresh = []
    for state in kept:
        step = steps[state]
        fresh.append({letter: numbers[step[letter]] for letter in step if step[letter] in alive})
    return (fresh, [numbers[end] for end in ends])


def alive_states(steps, ends):
    """A dict with the states from which ends are reached as its keys."""
    before = [[] for _ in steps]
    for state, step in enumerate(steps):
        for led in step.values():
            before[led].append(state)
    alive = {end: True for end in ends}
    waiting = list(ends)
    while waiting:
        led = waiting.pop()
        for state in before[led]:
            if state not in alive:
                alive[state] = True
                waiting.append(state)
    return alive


def merged(letters, steps, ends):
    """The pair (steps, ends) with the fewest states.

    All states that are passed come from state 0 and lead to ends, unless there are no ends;
    so each kind of states is needed, and too many kinds are too many states at once.
    """
    kinds = [0] * len(steps)
    for end in ends:
        kinds[end] = 1
    many = len(set(kinds))
    while True:
        numbers = {}
        fresh = []
        for state, step in enumerate(steps):
            told = tuple([kinds[state]] + [kinds[step[letter]] if letter in step else -1 for letter in letters])
            fresh.append(numbers.setdefault(told, len(numbers)))
        if len(numbers) > MOST_STATES:
            raise TooLarge(MOST_STATES)
        if len(numbers) == many:
            return numbered(letters, steps, ends, kinds)
        kinds = fresh
        many = len(numbers)


def numbered(letters, steps, ends, kinds):
    """The pair (steps, ends) of kinds of states, numbered in the order of the earliest rows to them."""
    firsts = [0]
    numbers = {kinds[0]: 0}
    fresh = []
    while len(fresh) < len(firsts):
        step = steps[firsts[len(fresh)]]
        told = {}
        for letter in letters:
            if letter in step:
                kind = kinds[step[letter]]
                if kind not in numbers:
                    numbers[kind] = len(firsts)
                    firsts.append(step[letter])
                told[letter] = numbers[kind]
        fresh.append(told)
    return (fresh, sorted({numbers[kinds[end]] for end in ends}))
