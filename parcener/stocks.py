"""Descent: nodes, the parts into which they divide, and the shares of those who take by them."""

from parcener.fractions import ONE, ZERO, fraction, plus, times
from parcener.rules import survives

TAKES = "takes"
DIVIDES = "divides"
GONE = "gone"


def _heads(family, rules, dead, name):
    """Returns the ascending list of those among whom the mode heads divides somebody's place."""
    generation = family.children(name)
    while generation:
        if any([survives(family, rules, dead, person) for person in generation]):
            return generation
        generation = sorted({child for person in generation for child in family.children(person)})
    return family.children(name)


def parts_of(family, rules, dead, node):
    """Returns the ascending list of the parts of a node that does not take."""
    name, row = node
    if row > 0:
        return [(parent, row - 1) for parent in family.parents(name)]
    if row == 0 and rules.mode == "heads":
        return [(person, -1) for person in _heads(family, rules, dead, name)]
    return [(child, -1) for child in family.children(name)]


def takes(family, rules, dead, node):
    """Returns True if a node takes."""
    name, row = node
    return row <= 0 and survives(family, rules, dead, name)


def _divided_row(node, parts, kinds):
    """Returns the row of a node that does not take; kinds tells the kind of each of its parts."""
    live = tuple([part for part in parts if kinds[part] != GONE])
    gone = tuple([part for part in parts if kinds[part] == GONE])
    kind = DIVIDES if live else GONE
    return (node, kind, live, gone)


def rows_of(family, rules, dead, node):
    """Returns the tuple of the rows of a node: those that it needs, and its own behind them."""
    rows = []
    kinds = {}
    waiting = [node]
    while waiting:
        top = waiting[-1]
        is_taker = takes(family, rules, dead, top)
        parts = [] if is_taker else parts_of(family, rules, dead, top)
        unknown = [part for part in parts if part not in kinds]
        if unknown:
            # The least part lies on top, because the rows come part by part, ascending.
            waiting.extend(unknown[::-1])
            continue
        waiting.pop()
        # Another way to this node may have led to its row meanwhile.
        if top not in kinds:
            row = (top, TAKES, (), ()) if is_taker else _divided_row(top, parts, kinds)
            kinds[top] = row[1]
            rows.append(row)
    return tuple(rows)


def shares_of(rows, node):
    """Returns the dict of the shares of those who take by a node that is not gone."""
    held = {node: ONE}
    shares = {}
    # A node stands behind its parts; backwards, all that it has is known before it is divided.
    for place, kind, live, _ in reversed(rows):
        if place not in held:
            continue
        if kind == TAKES:
            name = place[0]
            shares[name] = plus(shares.get(name, ZERO), held[place])
        for part in live:
            portion = times(held[place], fraction(1, len(live)))
            held[part] = plus(held.get(part, ZERO), portion)
    return shares
