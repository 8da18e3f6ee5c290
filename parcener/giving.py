"""What takers are given: things, and portions, which are pairs of an amount of coins and the shares in it."""

from parcener.family import CROWN
from parcener.fractions import ONE, ZERO, fraction, plus, times
from parcener.papers import NO_ROW, levels
from parcener.stocks import shares_of


def _that_count(case, taken):
    """Returns the list of the pairs of a gift that counts and the shares of its takers (point 6.2)."""
    found = []
    given = {}
    for gift, shares in zip(case.gifts, taken):
        if not shares:
            continue
        if gift[0] == "thing":
            if gift[2] in given or not case.estate.has(gift[2]):
                continue
            given[gift[2]] = True
        found.append((gift, shares))
    return found


def _of_word(gifts, word):
    """Returns the list of those pairs whose gift has this word, with what it gives instead of the gift."""
    return [(gift[2], shares) for gift, shares in gifts if gift[0] == word]


def _in_parts(amount, claims):
    """Returns the portions of an amount that is divided by claims, pairs of an integer and shares."""
    whole = sum([claim for claim, _ in claims])
    if whole == 0:
        return []
    return [(fraction(amount * claim, whole), shares) for claim, shares in claims]


def _things_given(case, things, left):
    """Returns the pairs of a thing that is not sold and its taker, and the portions from those that are."""
    claims = [(case.estate.worth(thing), shares) for thing, shares in things]
    worth = sum([claim for claim, _ in claims])
    if left < worth:
        return [], _in_parts(left, claims)
    kept = [(thing, list(shares)[0]) for thing, shares in things if len(shares) == 1]
    sold = [claim for claim in claims if len(claim[1]) > 1]
    return sorted(kept), [((claim, 1), shares) for claim, shares in sold]


def _to_takers(case, amount, height, rows):
    """Returns the portions of the takers of the dead person's node in this row."""
    node = (case.dead, height)
    if height > 0:
        return [(amount, shares_of(rows, node))]
    live = [part for row in rows if row[0] == node for part in row[2]]
    found = levels(amount, {part[0]: case.family.advance(part[0]) for part in live})
    return [(found[part[0]], shares_of(rows, part)) for part in live]


def _by_descent(case, amount, height, rows):
    """Returns the portions of what goes by descent (points 6.6 and 6.7)."""
    spouses = case.spouses()
    equal = {name: fraction(1, len(spouses)) for name in spouses}
    if height == NO_ROW:
        return [(amount, equal if spouses else {CROWN: ONE})]
    if not spouses:
        return _to_takers(case, amount, height, rows)
    beside = (times(amount, case.rules.spouse_part(height)), equal)
    others = times(amount, case.rules.others_part(height))
    return [beside] + _to_takers(case, others, height, rows)


def all_given(case, taken, descent, left):
    """Returns the pairs of a thing that is not sold and its taker, and the portions of all takers.

    For each gift, taken has the shares of its takers, none if it lapses; descent is the pair of a row and of the
    rows that show it; left is what the debts leave.
    """
    gifts = _that_count(case, taken)
    things, sums, rests = _of_word(gifts, "thing"), _of_word(gifts, "sum"), _of_word(gifts, "rest")
    kept, portions = _things_given(case, things, left)
    # Things come before sums, and sums before the rest; each takes what it needs, as far as there is enough.
    left = max(0, left - sum([case.estate.worth(thing) for thing, _ in things]))
    paid = min(left, sum([claim for claim, _ in sums]))
    portions = portions + _in_parts(paid, sums)
    if rests:
        return kept, portions + _in_parts(left - paid, rests)
    return kept, portions + _by_descent(case, (left - paid, 1), descent[0], descent[1])


def added(portions):
    """Returns the dict of the coins that each name has of portions, as fractions."""
    coins = {}
    for amount, shares in portions:
        for name in shares:
            coins[name] = plus(coins.get(name, ZERO), times(amount, shares[name]))
    return coins
