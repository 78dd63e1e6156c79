"""Programs."""

from runsback.errors import BadProgram
from runsback.kinds import is_deeds, is_small_word
from runsback.sizes import flow_size
from runsback.statements import is_block, names_in

MOST_PLACES = 60
MOST_ARROWS = 200


class Program:
    """A program over deeds: named parts and a body."""

    def __init__(self, deeds, parts, body):
        if not is_deeds(deeds):
            raise BadProgram("deeds")
        if not are_parts(deeds, parts):
            raise BadProgram("parts")
        if not is_block(deeds, parts, body, 1):
            raise BadProgram("body")
        places, arrows = flow_size(parts, body)
        if places > MOST_PLACES or arrows > MOST_ARROWS:
            raise BadProgram("size")
        self.deeds = deeds
        self.body = body
        self._parts = dict(parts)

    @property
    def parts(self):
        """A new dict from the names of the parts to their blocks."""
        return dict(self._parts)

    def __eq__(self, other):
        return (isinstance(other, Program) and self.deeds == other.deeds and self._parts == other._parts
                and self.body == other.body)


def are_parts(deeds, thing):
    """Whether the thing is a dict of parts, none of which is within itself."""
    if not isinstance(thing, dict) or len(thing) > 4:
        return False
    if not all([is_small_word(name) and len(name) <= 8 for name in thing]):
        return False
    if not all([is_block(deeds, thing, thing[name], 1) for name in thing]):
        return False
    named = {name: names_in(thing[name]) for name in thing}
    return not any([is_within(named, name) for name in named])


def is_within(named, part):
    """Whether a part is named by its block, or by the block of a part that is, and so on."""
    seen = {}
    waiting = list(named[part])
    while waiting:
        name = waiting.pop()
        if name not in seen:
            seen[name] = True
            waiting.extend(named[name])
    return part in seen
