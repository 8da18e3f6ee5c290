"""Books of rules: who takes beside whom, and who survives."""

from parcener.errors import BadRules
from parcener.family import is_amount
from parcener.fractions import ONE, fraction, minus

MODES = ("stocks", "heads")
MOST_DAYS = 1000
MOST_ROWS = 3
GREATEST_PART = 1000


def _is_up_to(value, most):
    """Returns True if a value of any kind is an integer from 0 to most."""
    return is_amount(value) and value <= most


def _is_part(value):
    """Returns True if a value of any kind is a pair that tells a spouse's part."""
    if not isinstance(value, tuple) or len(value) != 2:
        return False
    if not _is_up_to(value[1], GREATEST_PART) or value[1] == 0:
        return False
    return _is_up_to(value[0], value[1])


def _are_parts(value, many):
    """Returns True if a value of any kind is a tuple of so many pairs that tell a spouse's part."""
    if not isinstance(value, tuple) or len(value) != many:
        return False
    return all([_is_part(pair) for pair in value])


class Rules:
    """A book of rules that is in order."""

    def __init__(self, *, days=0, mode="stocks", spouse=((1, 2), (3, 4), (1, 1), (1, 1)), rows=3, steps_in=True):
        if not _is_up_to(days, MOST_DAYS):
            raise BadRules("days")
        if not isinstance(mode, str) or mode not in MODES:
            raise BadRules("mode")
        if not _is_up_to(rows, MOST_ROWS):
            raise BadRules("rows")
        if not _are_parts(spouse, rows + 1):
            raise BadRules("spouse")
        self.days = days
        self.mode = mode
        self.rows = rows
        self.steps_in = steps_in
        self._spouse = spouse

    def spouse_part(self, row):
        """Returns the fraction that the spouses take beside a row."""
        first, second = self._spouse[row]
        return fraction(first, second)

    def others_part(self, row):
        """Returns the fraction that the spouses leave to a row."""
        return minus(ONE, self.spouse_part(row))


def survives(family, rules, dead, name):
    """Returns True if somebody survives the dead person, who has died by the facts."""
    if name == dead or family.has_renounced(name):
        return False
    day = family.day(name)
    return day is None or day > family.day(dead) + rules.days
