"""Rows and their nets."""

from runsback.errors import NoNumber, NoRoot, NoRow
from runsback.kinds import is_integer_within, is_row
from runsback.nets import place_in_order, reduced, repeated_net, root_of_net, undoings


def net(row):
    """What is left of a row when neighbours that undo one another are dropped."""
    demand_row(row)
    return reduced(row)


def undone(row):
    """The net of the undoings of a row's letters, from the last one to the first one."""
    demand_row(row)
    return reduced(undoings(row))


def joined(rows):
    """The net of the rows of a list or tuple, one behind another."""
    if not isinstance(rows, (list, tuple)):
        raise NoRow()
    for row in rows:
        demand_row(row)
    return reduced("".join(rows))


def power(row, times):
    """The net of a row so often, undone for times below 0."""
    demand_row(row)
    if not is_integer_within(times, -1000, 1000):
        raise NoNumber()
    if times < 0:
        return repeated_net(reduced(undoings(row)), -times)
    return repeated_net(reduced(row), times)


def turned(row, by):
    """The net of by, the row and by undone."""
    demand_row(row)
    demand_row(by)
    return reduced(by + row + undoings(by))


def earlier(row, second):
    """Whether the first of two rows, as they stand, is the earlier one."""
    demand_row(row)
    demand_row(second)
    return place_in_order(row) < place_in_order(second)


def root(row):
    """The pair of the net of which the row's net is the highest power, and how often."""
    demand_row(row)
    if reduced(row) == "":
        raise NoRoot()
    return root_of_net(reduced(row))


def demand_row(thing):
    """Raise NoRow for what is no row."""
    if not is_row(thing):
        raise NoRow()
