"""Families: what facts tell of persons."""

from parcener.errors import BadFact, Circular

NAME_SIGNS = "abcdefghijklmnopqrstuvwxyz0123456789"
LONGEST_NAME = 12
CROWN = "crown"
GREATEST_AMOUNT = 1000000000
MOST_FACTS = 120
MOST_PARENTS = 2


def is_name(value):
    """Returns True if a value of any kind is a name."""
    if not isinstance(value, str) or value == CROWN:
        return False
    if not 1 <= len(value) <= LONGEST_NAME:
        return False
    return all([sign in NAME_SIGNS for sign in value])


def is_amount(value):
    """Returns True if a value of any kind is an amount."""
    if not isinstance(value, int) or isinstance(value, bool):
        return False
    return 0 <= value <= GREATEST_AMOUNT


def is_fact(fact):
    """Returns True if a value of any kind is a fact."""
    if not isinstance(fact, tuple) or len(fact) not in (2, 3):
        return False
    word = fact[0]
    if not isinstance(word, str) or not is_name(fact[1]):
        return False
    if len(fact) == 2:
        return word == "renounced"
    if word in ("child", "wed", "parted"):
        return is_name(fact[2]) and fact[1] != fact[2]
    return word in ("died", "advance") and is_amount(fact[2])


def _joined(names, name):
    """Returns an ascending list of names with one more, if it is not yet there."""
    if name in names:
        return names
    return sorted(names + [name])


class Family:
    """What a list of facts tells; the lists in its tables are ascending and never modified."""

    def __init__(self, facts):
        if len(facts) > MOST_FACTS:
            raise BadFact(MOST_FACTS)
        self._children = {}
        self._parents = {}
        self._wed = {}
        self._parted = {}
        self._days = {}
        self._renounced = {}
        self._advances = {}
        for at, fact in enumerate(facts):
            if not is_fact(fact) or self._contradicts(fact):
                raise BadFact(at)
            self._learn(fact)
        for name in sorted(self._children):
            if self.reaches(name, name):
                raise Circular(name)

    def _contradicts(self, fact):
        """Returns True if a fact tells of a third parent or of another day of death."""
        word = fact[0]
        if word == "child":
            parents = self.parents(fact[1])
            return len(parents) == MOST_PARENTS and fact[2] not in parents
        if word == "died":
            return self._days.get(fact[1], fact[2]) != fact[2]
        return False

    def _learn(self, fact):
        """Takes a fact that does not contradict what is known into the tables."""
        word, name = fact[0], fact[1]
        if word == "child":
            self._parents[name] = _joined(self.parents(name), fact[2])
            self._children[fact[2]] = _joined(self.children(fact[2]), name)
        elif word == "wed":
            self._wed[name] = _joined(self._wed.get(name, []), fact[2])
            self._wed[fact[2]] = _joined(self._wed.get(fact[2], []), name)
        elif word == "parted":
            self._parted[name] = _joined(self._parted.get(name, []), fact[2])
            self._parted[fact[2]] = _joined(self._parted.get(fact[2], []), name)
        elif word == "died":
            self._days[name] = fact[2]
        elif word == "renounced":
            self._renounced[name] = True
        else:
            self._advances[name] = self.advance(name) + fact[2]

    def children(self, name):
        """Returns the ascending list of somebody's children."""
        return list(self._children.get(name, []))

    def parents(self, name):
        """Returns the ascending list of somebody's parents."""
        return list(self._parents.get(name, []))

    def spouses(self, name):
        """Returns the ascending list of those who are wed to somebody and not parted."""
        parted = self._parted.get(name, [])
        return [other for other in self._wed.get(name, []) if other not in parted]

    def day(self, name):
        """Returns the day of somebody's death, or None."""
        return self._days.get(name)

    def has_renounced(self, name):
        """Returns True if somebody has renounced."""
        return name in self._renounced

    def advance(self, name):
        """Returns the sum of what somebody has had in advance."""
        return self._advances.get(name, 0)

    def reaches(self, name, wanted):
        """Returns True if wanted is a descendant of the person called name."""
        found = {}
        waiting = [name]
        while waiting:
            person = waiting.pop()
            for child in self.children(person):
                # Each person is followed once, so that rings and shared descendants come to an end.
                if child not in found:
                    found[child] = True
                    waiting.append(child)
        return wanted in found
