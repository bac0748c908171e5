"""Texts: items with single blanks between."""

from fourstones.errors import BadText

MOST_DIGITS = 140


def items_of(text):
    """The items of a text, the empty ones, too; BadText(0, 0) for no string."""
    if not isinstance(text, str):
        raise BadText(0, 0)
    return text.split(" ")


def number_told(item, least, most):
    """The integer from least to most, which are none below 0, that the item tells; None if it tells none."""
    if not item.isascii() or not item.isdigit() or len(item) > MOST_DIGITS:
        return None
    if item[0] == "0" and item != "0":
        return None
    number = int(item)
    return number if least <= number <= most else None


def number_at(items, at, least, most):
    """The integer that an item tells; BadText(0, at) if it is missing, or cannot stand there."""
    number = number_told(items[at], least, most) if at < len(items) else None
    if number is None:
        raise BadText(0, at)
    return number
