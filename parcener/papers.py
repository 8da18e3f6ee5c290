"""Papers: they show, row by row, who takes by each gift and by descent, and who has fallen away."""

from parcener.fractions import ZERO, is_less, minus, plus, times
from parcener.stocks import GONE, rows_of

GIFT = "gift"
DESCENT = "descent"
PERSON = "person"
STOCK = "stock"
LAPSE = "lapse"
NO_ROW = -1


def needs_node(case, takers):
    """Returns True if the node of the first of these takers tells who has their gift (point 6.1)."""
    if case.first_taker(takers) is not None:
        return False
    return case.rules.steps_in and case.is_near(takers[0])


def _gift_line(case, gift):
    """Returns the line of a gift."""
    _, number, _, takers = gift
    if needs_node(case, takers):
        rows = rows_of(case.family, case.rules, case.dead, (takers[0], 0))
        how = LAPSE if rows[-1][1] == GONE else STOCK
        return (GIFT, number, how, rows)
    how = LAPSE if case.first_taker(takers) is None else PERSON
    return (GIFT, number, how, ())


def _descent_line(case):
    """Returns the line for descent."""
    rows = []
    known = {}
    for height in range(case.rules.rows + 1):
        for row in rows_of(case.family, case.rules, case.dead, (case.dead, height)):
            if row[0] not in known:
                known[row[0]] = True
                rows.append(row)
        # The rows of a node end with its own, which no lower node has needed.
        if rows[-1][1] != GONE:
            return (DESCENT, height, tuple(rows))
    return (DESCENT, NO_ROW, tuple(rows))


def make_paper(case):
    """Returns the paper of a case: a line for each gift that stands, and one for descent."""
    lines = [_gift_line(case, gift) for gift in case.gifts]
    return (*lines, _descent_line(case))


def _level(amount, steps):
    """Returns the level to which an amount lifts those who have had these advances, ascending."""
    had = steps[0]
    level = plus(amount, (had, 1))
    for many in range(1, len(steps)):
        # Who has had as much as this level, or more, has nothing, and those behind them neither.
        if not is_less((steps[many], 1), level):
            break
        had = had + steps[many]
        level = times(plus(amount, (had, 1)), (1, many + 1))
    return level


def levels(amount, advances):
    """Returns the dict of what each name has of an amount so that all come to one level with their advances."""
    level = _level(amount, sorted(advances.values()))
    portions = {}
    for name in sorted(advances):
        advance = (advances[name], 1)
        portions[name] = minus(level, advance) if is_less(advance, level) else ZERO
    return portions
