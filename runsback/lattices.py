"""Sums of rows of integers: which row is a sum of others, each so often, and what shows that one is not.

The rows that are put together stand in a TRIANGLE: for each column the row whose first number other than 0
stands there, or None. Behind its columns each row keeps how often each of the rows at hand is in it.
"""


def triangle(width, vectors):
    """The triangle with so many columns of what some rows of integers make."""
    steps = [None] * width
    for number, vector in enumerate(vectors):
        counts = [0] * len(vectors)
        counts[number] = 1
        enter(steps, list(vector) + counts)
    return steps


def enter(steps, row):
    """Enter a row in a triangle."""
    rest = row
    for column in range(len(steps)):
        if rest[column] != 0:
            if steps[column] is None:
                steps[column] = rest
                return
            steps[column], rest = divided(steps[column], rest, column)


def divided(one, other, column):
    """Two rows that make what these make, of which the second one has 0 in the column."""
    first, second = one, other
    while second[column] != 0:
        first, second = second, less_often(first, second, first[column] // second[column])
    return (first, second)


def less_often(one, other, times):
    """One row less another one so often."""
    return [number - times * second for number, second in zip(one, other)]


def rest_of(steps, many, target):
    """What is left of a row, less rows that so many rows make: nothing in the columns just if they make it.

    Behind the columns stands how often each of the rows was taken away, with the sign turned.
    """
    rest = list(target) + [0] * many
    for column, row in enumerate(steps):
        if row is not None:
            rest = less_often(rest, row, rest[column] // row[column])
    return rest


def dividing_weights(steps, rest):
    """A pair (m, weights) by which what the rows make weighs a multiple of m, and the rest of a row does not."""
    column = [at for at in range(len(steps)) if rest[at] != 0][0]
    if steps[column] is None:
        base = abs(rest[column]) + 1
    else:
        base = abs(steps[column][column])
    scale = 1
    for at in range(column):
        if steps[at] is not None:
            scale = scale * abs(steps[at][at])
    # Each row ahead is given the weight 0; scale has each number by which is divided here as a factor of its own.
    weights = [0] * len(steps)
    weights[column] = scale
    for at in range(column - 1, -1, -1):
        if steps[at] is not None:
            total = sum([steps[at][k] * weights[k] for k in range(at + 1, column + 1)])
            weights[at] = -(total // steps[at][at])
    m = base * scale
    return (m, tuple([weight % m for weight in weights]))
