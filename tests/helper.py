"""What several tests share: values of many kinds, facts, plain models of the document's words, and random cases."""

from fractions import Fraction

from parcener.cases import Case
from parcener.estates import Estate
from parcener.family import is_name
from parcener.rules import Rules


class Equal:
    """Something of another kind that claims to be equal to everything."""

    def __eq__(self, other):
        return True

    __hash__ = object.__hash__


OF_OTHER_KINDS = [None, True, False, 0, 1, 1.0, "", "al", b"al", [], ["al"], (), ("al",), {}, {"al": 1}, {"al"},
                  object(), int, len]


def born(text):
    """Facts of children: "a: b c" tells that b and c are children of a; commas part such texts."""
    facts = []
    for line in text.split(","):
        parent, children = line.split(":")
        facts += [("child", child, parent.strip()) for child in children.split()]
    return facts


def died(names, day=1):
    """Facts that all these died on a day."""
    return [("died", name, day) for name in names.split()]


def ladder(many, up):
    """Facts of generations of two, each one a child of both of the generation before it."""
    facts = []
    for at in range(many):
        above, below = (at + 1, at) if up else (at, at + 1)
        facts += [("child", f"{one}{below}", f"{two}{above}") for one in "ab" for two in "ab"]
    return facts


def whole(shares):
    """Shares as fractions of Python's library."""
    return {name: Fraction(*share) for name, share in shares.items()}


class Plain:
    """Points 3.2 to 4.4 as their words say them, from facts that are in order."""

    def __init__(self, facts, rules, dead):
        self.links = {fact[1:] for fact in facts if fact[0] == "child"}
        self.days = {fact[1]: fact[2] for fact in facts if fact[0] == "died"}
        self.renounced = {fact[1] for fact in facts if fact[0] == "renounced"}
        self.rules, self.dead = rules, dead

    def survives(self, name):
        last = self.days[self.dead] + self.rules.days
        return not (name == self.dead or name in self.renounced or name in self.days and self.days[name] <= last)

    def below(self, names):
        return {child for child, parent in self.links if parent in names}

    def heads(self, name):
        generations = [self.below([name])]
        while generations[-1]:
            generations.append(self.below(generations[-1]))
        alive = [persons for persons in generations if any(map(self.survives, persons))]
        return (alive + generations)[0]

    def parts(self, node):
        name, row = node
        if row > 0:
            return sorted((parent, row - 1) for child, parent in self.links if child == name)
        heads = row == 0 and self.rules.mode == "heads"
        return sorted((person, -1) for person in (self.heads(name) if heads else self.below([name])))

    def takes(self, node):
        return node[1] <= 0 and self.survives(node[0])

    def rows(self, node, known=()):
        """The rows that are known, and behind them what this node needs besides."""
        if node in [row[0] for row in known]:
            return known
        if self.takes(node):
            return known + ((node, "takes", (), ()),)
        for part in self.parts(node):
            known = self.rows(part, known)
        kinds = {row[0]: row[1] for row in known}
        live = tuple(part for part in self.parts(node) if kinds[part] != "gone")
        gone = tuple(part for part in self.parts(node) if kinds[part] == "gone")
        return known + ((node, "divides" if live else "gone", live, gone),)

    def shares(self, node):
        """What each one takes by a node that is not gone."""
        if self.takes(node):
            return {node[0]: Fraction(1)}
        live = [part for part in self.parts(node) if self.rows(part)[-1][1] != "gone"]
        found = {}
        for part in live:
            for name, share in self.shares(part).items():
                found[name] = found.get(name, 0) + share / len(live)
        return found


def random_facts(dice):
    """Facts that are in order, and the dead person of whom they tell."""
    names = dice.sample("abcdefghij", dice.randint(2, 10))
    facts = []
    for at in range(1, len(names)):
        above = dice.sample(names[:at], min(at, dice.choice([0, 1, 1, 2, 2])))
        facts += [("child", names[at], parent) for parent in above]
    dead = dice.choice(names)
    likely = dice.choice([0.2, 0.5, 0.8, 0.95])
    for name in names:
        if name == dead or dice.random() < likely:
            facts.append(("died", name, dice.randint(1, 4)))
        elif dice.random() < 0.1:
            facts.append(("renounced", name))
    return dice.sample(facts, len(facts)), dead


def poured(amount, advances):
    """Point 6.7: the lowest ones are lifted together up to the next one, until nothing is left."""
    had = dict(advances)
    while amount > 0:
        low = min(had.values())
        lowest = [name for name in had if had[name] == low]
        higher = [value - low for value in had.values() if value > low]
        step = min([amount / len(lowest)] + higher)
        for name in lowest:
            had[name] += step
        amount -= step * len(lowest)
    return {name: had[name] - advances[name] for name in advances}


def rounded(shares):
    """Point 1.2, for a list of pairs of a key and a fraction, by ascending keys."""
    coins = [share.numerator // share.denominator for _, share in shares]
    left = sum(share for _, share in shares) - sum(coins)
    ranked = sorted(range(len(shares)), key=lambda at: (coins[at] - shares[at][1], at))
    for at in ranked[:int(left)]:
        coins[at] += 1
    return coins


class PlainCase(Plain):
    """Points 2.3 and 5.3 to 7.1 as their words say them, for the arguments of a case and the gifts that stand."""

    def __init__(self, dead, facts, book, goods, gifts):
        super().__init__(facts, Rules(**book), dead)
        self.pairs = book.get("spouse", ((1, 2), (3, 4), (1, 1), (1, 1)))
        self.coins, self.things = goods["coins"], dict(goods.get("things", ()))
        self.debts, self.gifts = list(goods.get("debts", ())), gifts
        self.advances = {name: 0 for fact in facts for name in fact[1:]}
        for fact in facts:
            if fact[0] == "advance":
                self.advances[fact[1]] += fact[2]
        bonds = {word: {frozenset(fact[1:]) for fact in facts if fact[0] == word} for word in ("wed", "parted")}
        wed = {name for bond in bonds["wed"] - bonds["parted"] if dead in bond for name in bond}
        self.widowed = sorted(filter(self.survives, wed))

    def is_gone(self, node):
        return self.rows(node)[-1][1] == "gone"

    def near(self, name):
        found, more = set(), {self.dead} | {parent for child, parent in self.links if child == self.dead}
        while more:
            more = self.below(more) - found
            found |= more
        return name in found

    def asks(self, names):
        return not any(map(self.survives, names)) and self.rules.steps_in and self.near(names[0])

    def takers(self, names):
        """Point 6.1: what each taker has of a gift; nobody has anything if it lapses."""
        alive = [name for name in names if self.survives(name)]
        if alive:
            return {alive[0]: Fraction(1)}
        if self.asks(names) and not self.is_gone((names[0], 0)):
            return self.shares((names[0], 0))
        return {}

    def paid(self):
        """Point 5.3: what each debt is paid, and what is left."""
        paid, left = [Fraction(0) for _ in self.debts], self.coins + sum(self.things.values())
        for rank in sorted({debt[1] for debt in self.debts}):
            due = sum(debt[2] for debt in self.debts if debt[1] == rank)
            for at, debt in enumerate(self.debts):
                if debt[1] == rank and due:
                    paid[at] = Fraction(debt[2] * min(left, due), due)
            left = max(0, left - due)
        return paid, left

    def row(self):
        """Point 6.6: the row of descent, -1 if there is none."""
        return ([row for row in range(self.rules.rows + 1) if not self.is_gone((self.dead, row))] + [-1])[0]

    def descent(self, rest):
        """Points 6.6 and 6.7: the pairs of a name and what it has of the rest."""
        row = self.row()
        if row == -1:
            alone = self.widowed or ["crown"]
            return [(name, Fraction(rest, len(alone))) for name in alone]
        part = Fraction(*self.pairs[row]) if self.widowed else Fraction(0)
        given = [(name, rest * part / len(self.widowed)) for name in self.widowed]
        others = rest - rest * part
        if row > 0:
            return given + [(name, others * share) for name, share in self.shares((self.dead, row)).items()]
        live = [part for part in self.parts((self.dead, 0)) if not self.is_gone(part)]
        found = poured(others, {part[0]: self.advances.get(part[0], 0) for part in live})
        return given + [(name, found[part[0]] * share) for part in live for name, share in self.shares(part).items()]

    def given(self, left):
        """Points 6.2 to 6.5: the things with their takers, and the pairs of a name and coins that it has."""
        taken = [(gift, self.takers(gift[3])) for gift in self.gifts if self.takers(gift[3])]
        named = [gift[2] for gift, _ in taken if gift[0] == "thing"]
        things = {}
        for gift, shares in taken:
            if gift[0] == "thing" and gift[2] in self.things:
                things.setdefault(gift[2], shares)
        sums = [(gift[2], shares) for gift, shares in taken if gift[0] == "sum"]
        rests = [(gift[2], shares) for gift, shares in taken if gift[0] == "rest"]
        worth, due = sum(self.things[thing] for thing in things), sum(amount for amount, _ in sums)
        assert set(things) == set(named) & set(self.things)
        if left < worth:
            return [], [(name, Fraction(self.things[thing] * left, worth) * share)
                        for thing in things for name, share in things[thing].items()]
        kept = sorted((thing, min(shares)) for thing, shares in things.items() if len(shares) == 1)
        coins = [(name, self.things[thing] * share) for thing, shares in things.items() if len(shares) > 1
                 for name, share in shares.items()]
        part = Fraction(1) if left >= worth + due else Fraction(left - worth, due)
        coins += [(name, amount * part * share) for amount, shares in sums for name, share in shares.items()]
        rest = max(0, left - worth - due)
        if not rests:
            return kept, coins + self.descent(rest)
        weights = sum(weight for weight, _ in rests)
        return kept, coins + [(name, Fraction(rest * weight, weights) * share)
                              for weight, shares in rests for name, share in shares.items()]

    def division(self):
        """Point 6.8: the lists of debts, things and coins."""
        paid, left = self.paid()
        things, given = self.given(left)
        names = sorted({name for name, _ in given})
        shares = [("0", share) for share in paid]
        shares += [("1", sum(share for other, share in given if other == name)) for name in names]
        coins = rounded(shares)
        debts = [(debt[0], coins[at]) for at, debt in enumerate(self.debts)]
        takers = list(zip(names, coins[len(debts):]))
        return debts, things, [pair for pair in takers if pair[1] > 0]

    def gift_line(self, gift):
        _, number, _, names = gift
        rows = self.rows((names[0], 0)) if self.asks(names) else ()
        how = "person" if any(map(self.survives, names)) else "stock" if self.takers(names) else "lapse"
        return ("gift", number, how, rows)

    def paper(self):
        """Point 7.1, and make_paper of the interface."""
        row, rows = self.row(), ()
        for at in range((row if row >= 0 else self.rules.rows) + 1):
            rows = self.rows((self.dead, at), rows)
        return tuple(map(self.gift_line, self.gifts)) + (("descent", row, rows),)

    def follows(self, row, before):
        """Point 4.4: a row follows from those before it."""
        node, kind, live, gone = row
        kinds = {earlier[0]: earlier[1] for earlier in before}
        if node in kinds:
            return False
        if self.takes(node):
            return (kind, live, gone) == ("takes", (), ())
        return (sorted(live + gone) == self.parts(node) and kind == ("divides" if live else "gone")
                and all(kinds.get(part) == "gone" for part in gone)
                and all(kinds.get(part) in ("takes", "divides") for part in live))

    def kinds(self, rows):
        """The kinds of the nodes in rows, or None if they are none or do not follow."""
        if not isinstance(rows, tuple) or not all(map(has_form_of_row, rows)):
            return None
        if not all(self.follows(row, rows[:at]) for at, row in enumerate(rows)):
            return None
        return {row[0]: row[1] for row in rows}

    def accepts_gift(self, gift, line):
        kinds = self.kinds(line[3]) if isinstance(line, tuple) and len(line) == 4 else None
        if kinds is None or line[:2] != ("gift", gift[1]):
            return False
        if not self.asks(gift[3]):
            return line[2] == ("person" if any(map(self.survives, gift[3])) else "lapse")
        kind = kinds.get((gift[3][0], 0))
        return kind is not None and line[2] == ("lapse" if kind == "gone" else "stock")

    def accepts(self, paper):
        """Point 7.2, for papers without True, False and values that claim to be equal to others."""
        if not isinstance(paper, tuple) or len(paper) != len(self.gifts) + 1:
            return False
        if not all(self.accepts_gift(gift, line) for gift, line in zip(self.gifts, paper)):
            return False
        line = paper[-1]
        kinds = self.kinds(line[2]) if isinstance(line, tuple) and len(line) == 3 else None
        if kinds is None or line[0] != "descent" or not isinstance(line[1], int):
            return False
        if not -1 <= line[1] <= self.rules.rows:
            return False
        needed = range((self.rules.rows if line[1] == -1 else line[1]) + 1)
        if not all((self.dead, row) in kinds for row in needed):
            return False
        return [row for row in needed if kinds[(self.dead, row)] != "gone"] == ([] if line[1] == -1 else [line[1]])


def has_form_of_node(value):
    return (isinstance(value, tuple) and len(value) == 2 and is_name(value[0]) and isinstance(value[1], int)
            and value[1] >= -1)


def has_form_of_row(value):
    """Point 4.4: a value has the form of a row, of a node with a row of at least -1."""
    return (isinstance(value, tuple) and len(value) == 4 and has_form_of_node(value[0]) and isinstance(value[1], str)
            and all(isinstance(nodes, tuple) and all(map(has_form_of_node, nodes)) for nodes in value[2:]))


def shown(division):
    """A division as a triple of its lists."""
    return division.debts(), division.things(), division.coins()


def made(dead, facts, book, goods, gifts):
    """The case of these arguments."""
    return Case(dead, facts, rules=Rules(**book), estate=estate_of(goods), will=gifts)


def estate_of(goods):
    """The estate of a dict of its parts."""
    return Estate(goods["coins"], things=goods.get("things", ()), debts=goods.get("debts", ()))


def random_book(dice):
    """The arguments of a book of rules."""
    rows = dice.choice([0, 1, 2, 3, 3])
    pairs = tuple(dice.choice([(0, 1), (1, 1), (1, 2), (3, 4), (2, 7), (333, 1000)]) for _ in range(rows + 1))
    return {"days": dice.choice([0, 0, 1, 2]), "mode": dice.choice(["stocks", "heads"]), "rows": rows,
            "spouse": pairs, "steps_in": dice.random() < 0.8}


def random_goods(dice):
    """The parts of an estate."""
    names = dice.sample(["a", "b", "c_c", "d"], dice.randint(0, 3))
    things = [(name, dice.choice([0, 1, 5, 30, 100])) for name in names]
    owed = dice.choice([0, 1, 1, 3])
    debts = [(dice.choice("abcxyz"), dice.randint(0, 2), owed * dice.randint(0, 25)) for _ in range(dice.randint(0, 4))]
    return {"coins": dice.choice([0, 1, 7, 50, 101, 1000]), "things": things, "debts": debts}


def random_gifts(dice, names):
    """Gifts that all stand; names tells of whom they may be."""
    gifts = []
    for number in dice.sample(range(100), dice.choice([0, 1, 3, 6])):
        takers = tuple(dice.choice(names) for _ in range(dice.choice([1, 1, 1, 2, 3])))
        word = dice.choice(["thing", "thing", "sum", "rest"])
        what = dice.choice(["a", "b", "c_c", "d"]) if word == "thing" else dice.choice([1, 2, 3, 17, 60])
        gifts.append((word, number, what, takers))
    return gifts


def random_case(dice):
    """The arguments of a case, as PlainCase and made take them."""
    facts, dead = random_facts(dice)
    names = sorted({name for fact in facts for name in fact[1:] if isinstance(name, str)} | {"zoe"})
    for name in names:
        if name != dead and dice.random() < 0.3:
            facts.append(dice.choice([("wed", dead, name), ("wed", name, dead), ("wed", name, "yves")]))
            if dice.random() < 0.2:
                facts.append(("parted", name, dead))
        if dice.random() < 0.4:
            facts.append(("advance", name, dice.choice([0, 1, 5, 40, 300])))
    dice.shuffle(facts)
    return dead, facts, random_book(dice), random_goods(dice), random_gifts(dice, names)
