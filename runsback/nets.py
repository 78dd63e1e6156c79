"""Nets of right rows: how they are made, put together and repeated."""

LETTERS = "aAbBcCdDeEfFgGhHiIjJkKlLmMnNoOpPqQrRsStTuUvVwWxXyYzZ"


def letters_over(deeds):
    """The letters over the deeds, in their order."""
    return "".join([deed + deed.upper() for deed in deeds])


def undoings(row):
    """The undoings of the letters of a row, from the last one to the first one."""
    return row.swapcase()[::-1]


def reduced(row):
    """The net of a row."""
    kept = []
    for letter in row:
        if kept and kept[-1] == letter.swapcase():
            kept.pop()
        else:
            kept.append(letter)
    return "".join(kept)


def met_net(nets):
    """The net of nets that stand one behind another."""
    kept = []
    for one in nets:
        at = 0
        while at < len(one) and kept and kept[-1] == one[at].swapcase():
            kept.pop()
            at += 1
        # The rest is a net, so that nothing in it falls away any more.
        kept.extend(one[at:])
    return "".join(kept)


def split_net(one):
    """The pair (side, core) of which the net is side, core and the undone side, the core being least."""
    at = 0
    while at < len(one) - 1 - at and one[at] == one[-1 - at].swapcase():
        at += 1
    return (one[:at], one[at:len(one) - at])


def repeated_length(one, times):
    """How many letters the net has that comes of a net so often, times being from 1 on."""
    side, core = split_net(one)
    return 2 * len(side) + len(core) * times


def repeated_net(one, times):
    """The net that comes of a net so often, times being from 0 on."""
    if one == "" or times == 0:
        return ""
    side, core = split_net(one)
    return side + core * times + undoings(side)


def root_of_net(one):
    """The pair (root, times) of a net that is not empty."""
    side, core = split_net(one)
    # A cycle first looks like itself again behind its shortest period.
    period = (core + core).find(core, 1)
    return (side + core[:period] + undoings(side), len(core) // period)


def place_in_order(row):
    """What earlier rows have less of."""
    return (len(row), [LETTERS.find(letter) for letter in row])
