"""The errors that several functions raise for their arguments."""

from fourstones.checks import is_cell, is_within
from fourstones.errors import BadCell, BadNumber


def demand_within(value, least, most, part):
    """Raises BadNumber(part) for no integer from least to most."""
    if not is_within(value, least, most):
        raise BadNumber(part)


def demand_cell(value, part):
    """Raises BadCell(part) for no cell."""
    if not is_cell(value):
        raise BadCell(part)
