"""Plans told of rows of arrows: which run it is that goes along them.

The arrows of a statement stand side by side in the flow, in the order in which it is
laid; so the number of an arrow tells which block has been chosen and when a loop is left.
"""

from runsback.sizes import block_size, statement_size
from runsback.statements import undone_block


def plan_along(program, path):
    """The plan of a run that goes along arrows of the flow, told by their numbers, from place 0 to place 1."""
    return Trail(program.parts, path).block_plan(program.body, 0)


class Trail:
    """Numbers of arrows that are read, one behind the other."""

    def __init__(self, blocks, path):
        self.blocks = blocks
        self.path = path
        self.at = 0
        self.known = {}

    def many_arrows(self, block):
        """The number of the arrows of a block."""
        return block_size(self.blocks, self.known, block)[1]

    def block_plan(self, block, low):
        """The plan of a block whose first arrow has the number low."""
        if not block:
            self.at += 1
            return ()
        found = []
        start = low
        for statement in block:
            found.append(self.item_plan(statement, start))
            start += statement_size(self.blocks, self.known, statement)[1]
        return tuple(found)

    def item_plan(self, statement, low):
        """What the plan has for a statement whose first arrow has the number low."""
        word, inner = statement
        if word == "do":
            self.at += max(len(inner), 1)
            return ()
        if word == "either":
            return self.choice(inner, low, 0)
        if word == "other":
            self.at += 1
            return self.choice(inner, low + 1, 1)
        if word == "loop":
            return self.rounds(inner, low + 1)
        if word == "part":
            return self.block_plan(self.blocks[inner], low)
        plan = self.block_plan(undone_block(self.blocks, inner), low)
        return plan_turned(self.blocks, inner, plan)

    def choice(self, blocks, low, ahead):
        """The pair for the block that is gone along, so many arrows standing ahead of each one."""
        index = 0
        start = low + ahead
        while self.path[self.at] >= start + self.many_arrows(blocks[index]):
            start += self.many_arrows(blocks[index]) + ahead
            index += 1
        self.at += ahead
        return (index, self.block_plan(blocks[index], start))

    def rounds(self, block, low):
        """The pairs for the rounds of a loop, those that are alike and stand side by side put together."""
        self.at += 1
        leaving = low + self.many_arrows(block)
        pairs = []
        while self.path[self.at] != leaving:
            plan = self.block_plan(block, low)
            if pairs and pairs[-1][0] == plan:
                pairs[-1] = (plan, pairs[-1][1] + 1)
            else:
                pairs.append((plan, 1))
        self.at += 1
        return tuple(pairs)


def plan_turned(parts, block, plan):
    """The plan of the run of a block that is undone by the run of the undone block with this plan."""
    return tuple([item_turned(parts, statement, item) for statement, item in zip(block, plan[::-1])])


def item_turned(parts, statement, item):
    """What the plan has for a statement, if that of the undone block has the item for the undone statement."""
    word, inner = statement
    if word in ("either", "other"):
        return (item[0], plan_turned(parts, inner[item[0]], item[1]))
    if word == "loop":
        return tuple([(plan_turned(parts, inner, plan), times) for plan, times in item[::-1]])
    # An undo becomes an either of its one block, a part an undo of its block: the plan of the block stays.
    return item[1] if word == "undo" else item
