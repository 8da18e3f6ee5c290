"""Cases: a dead person with a family, rules, an estate and a will."""

from parcener.errors import BadFact
from parcener.estates import standing
from parcener.family import Family
from parcener.rules import survives


class Case:
    """All by which the estate of a dead person is divided."""

    def __init__(self, dead, facts, *, rules, estate, will=()):
        self.dead = dead
        self.family = Family(facts)
        self.rules = rules
        self.estate = estate
        self.gifts = standing(will)
        if self.family.day(dead) is None:
            raise BadFact(len(facts))

    def survives(self, name):
        """Returns True if somebody survives the dead person."""
        return survives(self.family, self.rules, self.dead, name)

    def spouses(self):
        """Returns the ascending list of the spouses who survive."""
        return [name for name in self.family.spouses(self.dead) if self.survives(name)]

    def is_near(self, name):
        """Returns True if somebody is a descendant of the dead person or of one of their parents."""
        ancestors = [self.dead] + self.family.parents(self.dead)
        return any([self.family.reaches(ancestor, name) for ancestor in ancestors])

    def first_taker(self, names):
        """Returns the first of the names whose person survives, or None."""
        for name in names:
            if self.survives(name):
                return name
        return None
