"""The judge: reads a paper row by row, without searching, and tells the division that it shows."""

from parcener.errors import BadPaper
from parcener.estates import paid_debts
from parcener.family import is_name
from parcener.fractions import ONE, in_coins
from parcener.giving import added, all_given
from parcener.papers import DESCENT, GIFT, LAPSE, NO_ROW, PERSON, STOCK, needs_node
from parcener.stocks import DIVIDES, GONE, TAKES, parts_of, shares_of, takes

LOWEST = -1

# A paper may be a value of any kind. Only values of exactly these kinds are looked into: one of a kind derived from
# them could answer in its own way what it is equal to, or how long it is.


def _is_tuple(value, many):
    """Returns True if a value of any kind is a tuple with so many elements."""
    return type(value) == tuple and len(value) == many


def _is_node(value):
    """Returns True if a value of any kind is a node with a row of at least -1."""
    if not _is_tuple(value, 2) or type(value[0]) != str or type(value[1]) != int:
        return False
    return is_name(value[0]) and value[1] >= LOWEST


def _are_nodes(value):
    """Returns True if a value of any kind is a tuple of nodes."""
    return type(value) == tuple and all([_is_node(node) for node in value])


def _is_row(value):
    """Returns True if a value of any kind has the form of a row."""
    if not _is_tuple(value, 4) or not _is_node(value[0]) or type(value[1]) != str:
        return False
    return _are_nodes(value[2]) and _are_nodes(value[3])


def _is_line(value, word, many):
    """Returns True if a value of any kind is a tuple with so many elements, this word and then a number."""
    if not _is_tuple(value, many) or type(value[0]) != str or type(value[1]) != int:
        return False
    return value[0] == word


def _follows(case, kinds, row):
    """Returns True if a row follows from rows before it, of whose nodes the kinds are told."""
    node, kind, live, gone = row
    if node in kinds:
        return False
    if takes(case.family, case.rules, case.dead, node):
        return kind == TAKES and not live and not gone
    if kind != (DIVIDES if live else GONE):
        return False
    if sorted(live + gone) != parts_of(case.family, case.rules, case.dead, node):
        return False
    if not all([part in kinds for part in live + gone]):
        return False
    return all([kinds[part] != GONE for part in live]) and all([kinds[part] == GONE for part in gone])


def _kinds_in(case, rows):
    """Returns the dict of the kinds of the nodes in the rows of a line, a value of any kind."""
    if type(rows) != tuple:
        raise BadPaper("the rows of a line are not a tuple")
    kinds = {}
    for row in rows:
        if not _is_row(row):
            raise BadPaper("a row does not have the form of one")
        if not _follows(case, kinds, row):
            raise BadPaper("a row does not follow from the rows before it")
        kinds[row[0]] = row[1]
    return kinds


def _right_how(case, takers, kinds):
    """Returns the how of a gift with these takers, whose line shows nodes of these kinds."""
    if case.first_taker(takers) is not None:
        return PERSON
    if not needs_node(case, takers):
        return LAPSE
    node = (takers[0], 0)
    if node not in kinds:
        raise BadPaper("the row of a first taker is missing")
    return LAPSE if kinds[node] == GONE else STOCK


def _taken(case, gift, line):
    """Returns the shares of those who take a gift by its line, a value of any kind; none if it lapses."""
    if not _is_line(line, GIFT, 4) or line[1] != gift[1]:
        raise BadPaper("a line is not that of its gift")
    _, _, how, rows = line
    takers = gift[3]
    right = _right_how(case, takers, _kinds_in(case, rows))
    if type(how) != str or how != right:
        raise BadPaper("the how of a gift is not right")
    if how == PERSON:
        return {case.first_taker(takers): ONE}
    return shares_of(rows, (takers[0], 0)) if how == STOCK else {}


def _descent(case, line):
    """Returns the pair of the row of descent and the rows of its line, a value of any kind."""
    if not _is_line(line, DESCENT, 3):
        raise BadPaper("the last line is not that of descent")
    _, height, rows = line
    if height < NO_ROW or height > case.rules.rows:
        raise BadPaper("the rules do not have the row of descent")
    kinds = _kinds_in(case, rows)
    last = case.rules.rows if height == NO_ROW else height
    for place in range(last + 1):
        node = (case.dead, place)
        if node not in kinds:
            raise BadPaper("a row of the dead person is missing")
        if (kinds[node] == GONE) == (place == height):
            raise BadPaper("the row of descent is not the right one")
    return (height, rows)


class Division:
    """Who has what of an estate: whole coins and things."""

    def __init__(self, debts, things, coins):
        self._debts = debts
        self._things = things
        self._coins = coins

    def debts(self):
        """Returns the list of the pairs of a creditor and coins, in the order of the debts."""
        return list(self._debts)

    def things(self):
        """Returns the ascending list of the pairs of a thing that is not sold and its taker."""
        return list(self._things)

    def coins(self):
        """Returns the ascending list of the pairs of a taker and coins, without those who take none."""
        return list(self._coins)


def _division(case, taken, descent):
    """Returns the division in which gifts are taken by these shares, and the rest by this descent."""
    paid, left = paid_debts(case.estate)
    things, portions = all_given(case, taken, descent, left)
    shares = {("0", at): share for at, (_, share) in enumerate(paid)}
    coins_due = added(portions)
    for name in coins_due:
        shares[("1", name)] = coins_due[name]
    coins = in_coins(shares)
    debts = [(name, coins[("0", at)]) for at, (name, _) in enumerate(paid)]
    takers = [(name, coins[("1", name)]) for name in sorted(coins_due)]
    return Division(debts, things, [pair for pair in takers if pair[1] > 0])


def judge(case, paper):
    """Returns the division that a paper, a value of any kind, shows, or raises BadPaper."""
    if not _is_tuple(paper, len(case.gifts) + 1):
        raise BadPaper("the paper does not have a line for each gift and one for descent")
    taken = [_taken(case, gift, line) for gift, line in zip(case.gifts, paper)]
    return _division(case, taken, _descent(case, paper[-1]))
