"""Moves of standings: tuples that tell for each standing to which one it is led."""

from math import lcm

from runsback.statements import inner_block


def standing_still(size):
    """The move that leads each of so many standings to itself."""
    return tuple(range(size))


def followed(one, other):
    """The move of the one and then the other."""
    return tuple([other[standing] for standing in one])


def turned_back(move):
    """The move that leads back."""
    back = [0] * len(move)
    for standing, goal in enumerate(move):
        back[goal] = standing
    return tuple(back)


def rounds_of(move):
    """The lists of the standings that the move leads round, each standing in one of them."""
    seen = [False] * len(move)
    found = []
    for start in range(len(move)):
        chain = []
        standing = start
        while not seen[standing]:
            seen[standing] = True
            chain.append(standing)
            standing = move[standing]
        if chain:
            found.append(chain)
    return found


def repeated_move(move, times):
    """The move so often, times being from 0 on."""
    found = [0] * len(move)
    for chain in rounds_of(move):
        for at, standing in enumerate(chain):
            found[standing] = chain[(at + times) % len(chain)]
    return tuple(found)


def order_of(move):
    """The least integer from 1 on such that the move so often leads each standing to itself."""
    found = 1
    for chain in rounds_of(move):
        found = lcm(found, len(chain))
    return found


def letter_moves(world):
    """The dict from "" and all letters to their moves, in a world."""
    moves = {"": standing_still(world.size)}
    told = world.moves
    for deed in told:
        moves[deed] = told[deed]
        moves[deed.upper()] = turned_back(told[deed])
    return moves


def row_move(moves, row):
    """The move of a row, which is kept among the moves."""
    if row not in moves:
        move = moves[""]
        for letter in row:
            move = followed(move, moves[letter])
        moves[row] = move
    return moves[row]


def plan_move(parts, moves, block, plan):
    """The move of the row that a run of a block does."""
    move = moves[""]
    for statement, item in zip(block, plan):
        move = followed(move, item_move(parts, moves, statement, item))
    return move


def item_move(parts, moves, statement, item):
    """The move of the row that a run of a statement does."""
    word, inner = statement
    if word == "do":
        return row_move(moves, inner)
    if word in ("either", "other"):
        return plan_move(parts, moves, inner[item[0]], item[1])
    if word == "loop":
        move = moves[""]
        for plan, times in item:
            move = followed(move, repeated_move(plan_move(parts, moves, inner, plan), times))
        return move
    move = plan_move(parts, moves, inner_block(parts, statement), item)
    return turned_back(move) if word == "undo" else move
