"""The refusals, an error class each, and the check that every call makes first."""


class NotInRange(Exception):
    """Refusal -1: a number isn't in its range."""


class NoPower(Exception):
    """Refusal -3: a node that's told has no power."""


class NothingThere(Exception):
    """Refusal -4: no such message is under way; it has power already; there's nothing to send."""


class TooManyUnderWay(Exception):
    """Refusal -5: there would be too many messages under way."""


class NotBegun(Exception):
    """Refusal -7: no begin has been answered by 0 yet."""


def check_range(number, first, last):
    """Refuse a number that isn't one from first to last."""
    if number < first or number > last:
        raise NotInRange()
