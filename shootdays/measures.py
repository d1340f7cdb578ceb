"""Whole numbers, money and hours."""

MONEY_END = 10 ** 60
HOURS_END = 10 ** 12


def is_whole(value):
    """Whether this is an int that is no truth."""
    return isinstance(value, int) and not isinstance(value, bool)


def is_money(value):
    """Whether this is a whole number from 0 to below 10 ** 60."""
    return is_whole(value) and 0 <= value < MONEY_END


def is_hours(value):
    """Whether this is a whole number from 0 to below 10 ** 12."""
    return is_whole(value) and 0 <= value < HOURS_END
