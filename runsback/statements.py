"""Statements and blocks: which things are right ones, the parts they name, how they are undone."""

from runsback.kinds import is_row_over
from runsback.nets import undoings


def is_block(deeds, names, thing, depth):
    """Whether the thing is a block that may stand so deep, of deeds and with names of parts."""
    if not isinstance(thing, tuple) or len(thing) > 8 or depth > 6:
        return False
    return all([is_statement(deeds, names, item, depth) for item in thing])


def is_statement(deeds, names, thing, depth):
    """Whether the thing is a statement of a block that stands so deep."""
    if not isinstance(thing, tuple) or len(thing) != 2 or not isinstance(thing[0], str):
        return False
    word, inner = thing
    if word == "do":
        return is_row_over(deeds, inner) and len(inner) <= 12
    if word in ("either", "other"):
        return are_blocks(deeds, names, inner, depth + 1)
    if word in ("loop", "undo"):
        return is_block(deeds, names, inner, depth + 1)
    return word == "part" and isinstance(inner, str) and inner in names


def are_blocks(deeds, names, thing, depth):
    """Whether the thing is a tuple of blocks to choose from."""
    if not isinstance(thing, tuple) or not 1 <= len(thing) <= 4:
        return False
    return all([is_block(deeds, names, block, depth) for block in thing])


def names_in(block):
    """The names of parts that stand in a block, as often as they stand."""
    names = []
    for word, inner in block:
        if word == "part":
            names.append(inner)
        elif word in ("either", "other"):
            for choice in inner:
                names.extend(names_in(choice))
        elif word != "do":
            names.extend(names_in(inner))
    return names


def inner_block(parts, statement):
    """The block of a loop, a part or an undo."""
    word, inner = statement
    return parts[inner] if word == "part" else inner


def undone_block(parts, block):
    """The block that undoes a block."""
    return tuple([undone_statement(parts, statement) for statement in block[::-1]])


def undone_statement(parts, statement):
    """The statement that undoes a statement."""
    word, inner = statement
    if word == "do":
        return ("do", undoings(inner))
    if word in ("either", "other"):
        return (word, tuple([undone_block(parts, block) for block in inner]))
    if word == "loop":
        return ("loop", undone_block(parts, inner))
    if word == "part":
        return ("undo", parts[inner])
    return ("either", (inner,))
