"""Estates, wills and the debts that an estate pays."""

from parcener.errors import BadEstate, BadWill
from parcener.family import is_amount, is_name
from parcener.fractions import ONE, fraction, times

THING_SIGNS = "abcdefghijklmnopqrstuvwxyz_"
LONGEST_THING = 12
MOST_LINES = 60
MOST_TAKERS = 5


def _is_thing_name(value):
    """Returns True if a value of any kind has the form of a thing's name."""
    if not isinstance(value, str) or not 1 <= len(value) <= LONGEST_THING:
        return False
    return all([sign in THING_SIGNS for sign in value])


def _is_thing(value):
    """Returns True if a value of any kind is a thing with its worth."""
    if not isinstance(value, tuple) or len(value) != 2:
        return False
    return _is_thing_name(value[0]) and is_amount(value[1])


def _is_debt(value):
    """Returns True if a value of any kind is a debt."""
    if not isinstance(value, tuple) or len(value) != 3:
        return False
    return is_name(value[0]) and is_amount(value[1]) and is_amount(value[2])


class Estate:
    """What a dead person leaves: coins, things and debts."""

    def __init__(self, coins, *, things=(), debts=()):
        if not is_amount(coins):
            raise BadEstate("coins")
        self.coins = coins
        self._worths = {}
        for thing in things:
            if not _is_thing(thing):
                raise BadEstate("things")
            if thing[0] in self._worths:
                raise BadEstate("twice")
            self._worths[thing[0]] = thing[1]
        for debt in debts:
            if not _is_debt(debt):
                raise BadEstate("debts")
        self._debts = list(debts)

    def has(self, thing):
        """Returns True if the estate has a thing of this name."""
        return thing in self._worths

    def worth(self, thing):
        """Returns the worth of a thing that the estate has."""
        return self._worths[thing]

    def things(self):
        """Returns the ascending list of the pairs of a thing and its worth."""
        return [(thing, self._worths[thing]) for thing in sorted(self._worths)]

    def debts(self):
        """Returns the list of the debts, in order."""
        return list(self._debts)

    def all_worth(self):
        """Returns what the coins and all things are worth."""
        return self.coins + sum(self._worths.values())


def _are_takers(value):
    """Returns True if a value of any kind is a tuple of takers."""
    if not isinstance(value, tuple) or not 1 <= len(value) <= MOST_TAKERS:
        return False
    return all([is_name(name) for name in value])


def _is_given(word, value):
    """Returns True if a value of any kind is what a gift with this word gives."""
    if word == "thing":
        return _is_thing_name(value)
    if word == "sum":
        return is_amount(value)
    return word == "rest" and is_amount(value) and value > 0


def _is_line(value):
    """Returns True if a value of any kind is a line of a will."""
    if not isinstance(value, tuple) or len(value) not in (1, 2, 4):
        return False
    word = value[0]
    if not isinstance(word, str):
        return False
    if len(value) == 1:
        return word == "revoke"
    if not is_amount(value[1]):
        return False
    if len(value) == 2:
        return word == "revoke"
    return _is_given(word, value[2]) and _are_takers(value[3])


def _takes_away(line, gift):
    """Returns True if a line of a will takes away a gift of an earlier line."""
    return len(line) == 1 or line[1] == gift[1]


def standing(will):
    """Returns the list of the gifts of a will that stand at its end, in the order of their lines."""
    if len(will) > MOST_LINES:
        raise BadWill(MOST_LINES)
    gifts = []
    for at, line in enumerate(will):
        if not _is_line(line):
            raise BadWill(at)
        gifts = [gift for gift in gifts if not _takes_away(line, gift)]
        if line[0] != "revoke":
            gifts.append(line)
    return gifts


def _paid_parts(dues, left):
    """Returns the dict of the parts that are paid of the debts of each rank, and what is left."""
    parts = {}
    for rank in sorted(dues):
        paid = min(left, dues[rank])
        # A rank that owes nothing is paid in full, and has no part that could be reckoned.
        parts[rank] = fraction(paid, dues[rank]) if dues[rank] > 0 else ONE
        left = left - paid
    return parts, left


def paid_debts(estate):
    """Returns the pair of what each debt is paid, in the order of the debts, and what is left."""
    dues = {}
    for debt in estate.debts():
        dues[debt[1]] = dues.get(debt[1], 0) + debt[2]
    parts, left = _paid_parts(dues, estate.all_worth())
    paid = [(name, times((amount, 1), parts[rank])) for name, rank, amount in estate.debts()]
    return (paid, left)
