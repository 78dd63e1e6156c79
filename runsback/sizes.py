"""How many places and arrows the flow of a program has, without laying it.

Parts may name one another so that a flow would have very many arrows; so its size
is reckoned from the size of each part, which is reckoned once.
"""


def flow_size(parts, body):
    """The pair of the number of places and the number of arrows of the flow."""
    places, arrows = block_size(parts, {}, body)
    return (places + 2, arrows)


def block_size(parts, known, block):
    """The pair of how many places and arrows are made when a block is laid."""
    if not block:
        return (0, 1)
    places, arrows = sum_of_sizes([statement_size(parts, known, statement) for statement in block])
    return (places + len(block) - 1, arrows)


def statement_size(parts, known, statement):
    """The pair of how many places and arrows are made when a statement is laid."""
    word, inner = statement
    if word == "do":
        return (max(len(inner) - 1, 0), max(len(inner), 1))
    if word == "part":
        if inner not in known:
            known[inner] = block_size(parts, known, parts[inner])
        return known[inner]
    if word in ("either", "other"):
        places, arrows = sum_of_sizes([block_size(parts, known, block) for block in inner])
        more = 1 + len(inner) if word == "other" else 0
        return (places + more, arrows + more)
    # A block that is undone makes as many places and arrows as it does otherwise.
    places, arrows = block_size(parts, known, inner)
    return (places + 1, arrows + 2) if word == "loop" else (places, arrows)


def sum_of_sizes(sizes):
    """The sum of pairs, number by number."""
    return (sum([places for places, _ in sizes]), sum([arrows for _, arrows in sizes]))
