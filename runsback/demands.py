"""Errors for arguments that may be anything, where several modules ask for the same."""

from runsback.errors import NoDeeds, NoRow, NoRows, OtherDeeds
from runsback.kinds import are_rows_over, is_deeds, is_row_over


def demand_row_over(deeds, thing):
    """Raise NoRow for what is no row over the deeds."""
    if not is_row_over(deeds, thing):
        raise NoRow()


def demand_rows_over(deeds, thing, most, longest):
    """Raise NoDeeds for what are no deeds, NoRows for what are not at most so many rows, none longer."""
    if not is_deeds(deeds):
        raise NoDeeds()
    if not are_rows_over(deeds, thing, most, longest):
        raise NoRows()


def demand_same_deeds(one, other):
    """Raise OtherDeeds for two with unlike deeds."""
    if one.deeds != other.deeds:
        raise OtherDeeds()
