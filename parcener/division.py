"""Divisions of cases, and ledgers of what has been paid by them."""

from parcener.errors import BadPaper
from parcener.judge import judge
from parcener.papers import make_paper


def divide(case):
    """Returns the division of a case."""
    return judge(case, make_paper(case))


def accepts(case, paper):
    """Returns True if the judge accepts a paper, a value of any kind, for a case."""
    try:
        judge(case, paper)
    except BadPaper:
        return False
    return True


class Ledger:
    """What everybody holds in coins."""

    def __init__(self):
        self._held = {}

    def paid(self, name):
        """Returns the coins that somebody holds."""
        return self._held.get(name, 0)

    def settle(self, case):
        """Pays everybody what they take in a case and do not hold yet.

        Changes the ledger; returns the ascending list of the pairs of a name and a payment that is not 0.
        """
        due = dict(divide(case).coins())
        payments = []
        for name in sorted(set(list(self._held) + list(due))):
            payment = due.get(name, 0) - self.paid(name)
            if payment != 0:
                payments.append((name, payment))
        self._held = due
        return payments
