"""Points 2.1, 2.2 and 2.3, and parcener/family.py of the interface."""

import copy
import random
import unittest
from itertools import permutations

from helper import OF_OTHER_KINDS, Equal
from parcener import family
from parcener.errors import BadFact, Circular
from parcener.family import Family, is_amount, is_fact, is_name


def known(told, names):
    """All that a family tells of these names."""
    return {name: (told.children(name), told.parents(name), told.spouses(name), told.day(name),
                   told.has_renounced(name), told.advance(name),
                   [other for other in names if told.reaches(name, other)]) for name in names}


def descendants(links, name):
    """Everybody below somebody, plainly; links are pairs of a child and a parent."""
    found = {child for child, parent in links if parent == name}
    while True:
        more = found | {child for child, parent in links if parent in found}
        if more == found:
            return found
        found = more


def plainly_known(facts, names):
    """What points 2.2 and 2.3 say of facts that are in order."""
    links = {fact[1:] for fact in facts if fact[0] == "child"}
    wed = {frozenset(fact[1:]) for fact in facts if fact[0] == "wed"}
    wed -= {frozenset(fact[1:]) for fact in facts if fact[0] == "parted"}
    days = {fact[1]: fact[2] for fact in facts if fact[0] == "died"}
    return {name: (sorted(child for child, parent in links if parent == name),
                   sorted(parent for child, parent in links if child == name),
                   sorted(other for other in names if frozenset((name, other)) in wed and other != name),
                   days.get(name),
                   ("renounced", name) in facts,
                   sum(fact[2] for fact in facts if fact[:2] == ("advance", name)),
                   [other for other in names if other in descendants(links, name)]) for name in names}


def plain_fault(facts):
    """The error that point 2.2 asks for, as a pair, or None."""
    for at in range(len(facts)):
        read = facts[:at + 1]
        links = {fact[1:] for fact in read if fact[0] == "child"}
        deaths = {fact[1:] for fact in read if fact[0] == "died"}
        if any(len([1 for child, _ in links if child == name]) > 2 for name, _ in links):
            return (BadFact, at)
        if len({name for name, _ in deaths}) < len(deaths):
            return (BadFact, at)
    circular = [name for name, _ in links if name in descendants(links, name)] if facts else []
    return (Circular, min(circular)) if circular else None


class Checks(unittest.TestCase):
    def refused(self, facts, at):
        """These facts are refused with BadFact(at)."""
        with self.assertRaises(BadFact) as caught:
            Family(facts)
        self.assertEqual(caught.exception.at, at)
        self.assertIs(type(caught.exception.at), int)

    def circular(self, facts, name):
        """These facts are refused with Circular(name)."""
        with self.assertRaises(Circular) as caught:
            Family(facts)
        self.assertEqual(caught.exception.name, name)


class Names(unittest.TestCase):
    def test_names(self):
        for name in ["a", "z", "0", "9", "al", "abcdefghijkl", "012345678901", "mnopqrstuvwx", "yz", "a1b2",
                     "crow", "crowns", "crown1", "acrown", "died", "child"]:
            self.assertIs(is_name(name), True, name)

    def test_the_length(self):
        for length in range(1, 13):
            self.assertIs(is_name("a" * length), True)
            self.assertIs(is_name("7" * length), True)
        for length in (0, 13, 14, 100, 100000):
            self.assertIs(is_name("a" * length), False)

    def test_other_signs(self):
        for sign in "ABYZ _-.'/:@[`{|~\n\t\0\u00e4\u00df\u0131\u0430\u0660\u00b2\uff41\ud800":
            self.assertIs(is_name(sign), False, repr(sign))
            self.assertIs(is_name("al" + sign), False, repr(sign))
            self.assertIs(is_name(sign + "al"), False, repr(sign))
            self.assertIs(is_name("a" + sign + "l"), False, repr(sign))
        for sign in map(chr, range(400)):
            self.assertIs(is_name(sign), "a" <= sign <= "z" or "0" <= sign <= "9", repr(sign))

    def test_capitals(self):
        for name in ("Al", "aL", "AL", "CROWN", "Crown"):
            self.assertIs(is_name(name), False)

    def test_the_crown(self):
        self.assertIs(is_name("crown"), False)

    def test_values_of_other_kinds(self):
        for value in OF_OTHER_KINDS:
            self.assertIs(is_name(value), value == "al")
            self.assertIs(is_name([value]), False)
            self.assertIs(is_name((value,)), False)


class Amounts(unittest.TestCase):
    def test_amounts(self):
        for amount in (0, 1, 2, 12, 999999999, 1000000000):
            self.assertIs(is_amount(amount), True)

    def test_too_little_and_too_much(self):
        for amount in (-1, -2, -1000000000, 1000000001, 1000000002, 10**30, -(10**30)):
            self.assertIs(is_amount(amount), False)

    def test_true_and_false(self):
        self.assertIs(is_amount(True), False)
        self.assertIs(is_amount(False), False)

    def test_values_of_other_kinds(self):
        for value in OF_OTHER_KINDS + ["0", "1", 1.5, 0.0, float("nan")]:
            if type(value) is not int:
                self.assertIs(is_amount(value), False, repr(value))


class Facts(unittest.TestCase):
    def test_facts(self):
        for fact in [("child", "al", "bo"), ("wed", "al", "bo"), ("parted", "al", "bo"), ("child", "bo", "al"),
                     ("died", "al", 0), ("died", "al", 1000000000), ("renounced", "al"),
                     ("advance", "al", 0), ("advance", "al", 1000000000),
                     ("child", "abcdefghijkl", "0"), ("wed", "child", "wed"), ("renounced", "renounced")]:
            self.assertIs(is_fact(fact), True, fact)

    def test_the_two_names_differ(self):
        for word in ("child", "wed", "parted"):
            self.assertIs(is_fact((word, "al", "al")), False)
            self.assertIs(is_fact((word, "al", "al1")), True)

    def test_lists_instead_of_tuples(self):
        for fact in [("child", "al", "bo"), ("wed", "al", "bo"), ("parted", "al", "bo"), ("died", "al", 1),
                     ("renounced", "al"), ("advance", "al", 1)]:
            self.assertIs(is_fact(fact), True)
            self.assertIs(is_fact(list(fact)), False)
            self.assertIs(is_fact((fact,)), False)
            self.assertIs(is_fact({part: True for part in fact}), False)

    def test_other_lengths(self):
        for fact in [("child", "al", "bo"), ("wed", "al", "bo"), ("parted", "al", "bo"), ("died", "al", 1),
                     ("renounced", "al"), ("advance", "al", 1)]:
            for length in range(len(fact)):
                self.assertIs(is_fact(fact[:length]), False, fact[:length])
            for more in ("al", "bo", "cy", 1, None):
                self.assertIs(is_fact(fact + (more,)), False, fact + (more,))
        self.assertIs(is_fact(()), False)

    def test_other_words(self):
        for word in ("", "Child", "children", "born", "divorced", "die", "died ", "dead", "renounce", "advances", "al"):
            for rest in [("al",), ("al", "bo"), ("al", 1)]:
                self.assertIs(is_fact((word,) + rest), False, word)

    def test_the_rest_of_another_word(self):
        for word in ("child", "wed", "parted", "renounced"):
            self.assertIs(is_fact((word, "al", 1)), False)
        for word in ("died", "advance", "renounced"):
            self.assertIs(is_fact((word, "al", "bo")), False)
        for word in ("child", "wed", "parted", "died", "advance"):
            self.assertIs(is_fact((word, "al")), False)

    def test_wrong_names(self):
        for bad in ["", "Al", "crown", "abcdefghijklm", "a b", 1, 0, None, True, ["al"], ("al",), b"al", {}]:
            for word in ("child", "wed", "parted"):
                self.assertIs(is_fact((word, bad, "bo")), False, (word, bad))
                self.assertIs(is_fact((word, "bo", bad)), False, (word, bad))
            for word in ("died", "advance"):
                self.assertIs(is_fact((word, bad, 1)), False, (word, bad))
            self.assertIs(is_fact(("renounced", bad)), False, bad)

    def test_wrong_amounts(self):
        for bad in [-1, 1000000001, True, False, None, 1.0, "1", [1], (1,)]:
            for word in ("died", "advance"):
                self.assertIs(is_fact((word, "al", bad)), False, (word, bad))

    def test_a_value_that_is_equal_to_everything(self):
        self.assertIs(is_name(Equal()), False)
        self.assertIs(is_amount(Equal()), False)
        self.assertIs(is_fact(Equal()), False)
        for rest in [("al",), ("al", "bo"), ("al", 1)]:
            self.assertIs(is_fact((Equal(),) + rest), False)

    def test_values_of_any_kind(self):
        for value in OF_OTHER_KINDS + ["child", "renounced", ("child",), (("child", "al", "bo"),)]:
            self.assertIs(is_fact(value), False)
            for rest in [(), ("al",), ("al", "bo"), ("al", 1)]:
                self.assertIs(is_fact((value,) + rest), value == "renounced" and rest == ("al",)
                              or value == "child" and rest == ("al", "bo"))
            for word in ("child", "wed", "parted", "died", "advance"):
                self.assertIs(is_fact((word, value, value)), False)


class Telling(Checks):
    def test_children_and_parents(self):
        told = Family([("child", "di", "bo"), ("child", "cy", "al"), ("child", "ed", "al"), ("child", "di", "al"),
                       ("child", "fay", "di")])
        self.assertEqual(told.children("al"), ["cy", "di", "ed"])
        self.assertEqual(told.children("bo"), ["di"])
        self.assertEqual(told.children("di"), ["fay"])
        self.assertEqual(told.children("fay"), [])
        self.assertEqual(told.parents("di"), ["al", "bo"])
        self.assertEqual(told.parents("cy"), ["al"])
        self.assertEqual(told.parents("fay"), ["di"])
        self.assertEqual(told.parents("al"), [])

    def test_lists_are_ascending_as_strings(self):
        names = ["b", "10", "2", "ab", "a", "a0", "z9", "0"]
        told = Family([("child", name, "top") for name in names] + [("wed", "mid", name) for name in names])
        self.assertEqual(told.children("top"), ["0", "10", "2", "a", "a0", "ab", "b", "z9"])
        self.assertEqual(told.spouses("mid"), ["0", "10", "2", "a", "a0", "ab", "b", "z9"])
        self.assertEqual(Family([("child", "x", "b"), ("child", "x", "a")]).parents("x"), ["a", "b"])
        self.assertEqual(Family([("child", "x", "a"), ("child", "x", "b")]).parents("x"), ["a", "b"])

    def test_death(self):
        told = Family([("died", "al", 5), ("died", "bo", 0), ("child", "cy", "al")])
        self.assertEqual(told.day("al"), 5)
        self.assertEqual(told.day("bo"), 0)
        self.assertIs(type(told.day("bo")), int)
        self.assertIsNone(told.day("cy"))

    def test_renouncing(self):
        told = Family([("renounced", "al"), ("died", "bo", 1)])
        self.assertIs(told.has_renounced("al"), True)
        self.assertIs(told.has_renounced("bo"), False)

    def test_advances(self):
        told = Family([("advance", "al", 5), ("advance", "bo", 7), ("advance", "al", 5), ("advance", "al", 1)])
        self.assertEqual(told.advance("al"), 11)
        self.assertEqual(told.advance("bo"), 7)
        self.assertEqual(Family([("advance", "al", 0)]).advance("al"), 0)
        self.assertEqual(Family([("advance", "al", 1000000000)] * 120).advance("al"), 120000000000)

    def test_reaches(self):
        told = Family([("child", "bo", "al"), ("child", "cy", "bo"), ("child", "di", "cy"), ("child", "cy", "ed"),
                       ("child", "fay", "al"), ("wed", "fay", "gus")])
        below = {"al": ["bo", "cy", "di", "fay"], "bo": ["cy", "di"], "cy": ["di"], "ed": ["cy", "di"]}
        names = ["al", "bo", "cy", "di", "ed", "fay", "gus", "nobody"]
        for name in names:
            for wanted in names:
                self.assertIs(told.reaches(name, wanted), wanted in below.get(name, []), (name, wanted))

    def test_reaches_far(self):
        told = Family([("child", f"p{at + 1}", f"p{at}") for at in range(120)])
        self.assertIs(told.reaches("p0", "p120"), True)
        self.assertIs(told.reaches("p1", "p0"), False)
        self.assertIs(told.reaches("p60", "p120"), True)
        self.assertIs(told.reaches("p60", "p59"), False)

    def test_reaches_by_many_ways(self):
        facts = []
        for at in range(30):
            facts += [("child", f"{side}{at + 1}", f"{above}{at}") for side in "ab" for above in "ab"]
        told = Family(facts)
        self.assertIs(told.reaches("a0", "b30"), True)
        self.assertIs(told.reaches("a0", "b0"), False)
        self.assertIs(told.reaches("a29", "a29"), False)

    def test_persons_of_whom_no_fact_tells(self):
        for facts in ([], [("child", "bo", "al"), ("wed", "al", "cy"), ("died", "al", 3), ("renounced", "al"),
                           ("advance", "al", 3)]):
            self.assertEqual(known(Family(facts), ["zoe"]), {"zoe": ([], [], [], None, False, 0, [])})
            self.assertIs(Family(facts).reaches("zoe", "zoe"), False)
            self.assertIs(Family(facts).reaches("al", "zoe"), False)
            self.assertIs(Family(facts).reaches("zoe", "bo"), False)

    def test_facts_of_one_kind_tell_nothing_else(self):
        facts = [("child", "a", "b"), ("wed", "a", "b"), ("parted", "a", "b"), ("died", "a", 4), ("renounced", "a"),
                 ("advance", "a", 4)]
        for fact in facts:
            self.assertEqual(known(Family([fact]), ["a", "b"]), plainly_known([fact], ["a", "b"]), fact)

    def test_a_family_starts_anew(self):
        Family([("child", "bo", "al"), ("died", "al", 3), ("wed", "al", "cy"), ("renounced", "al"),
                ("advance", "al", 2)])
        self.assertEqual(known(Family([]), ["al"]), {"al": ([], [], [], None, False, 0, [])})
        self.assertEqual(Family([("died", "al", 4)]).day("al"), 4)

    def test_the_names_of_the_arguments(self):
        self.assertIs(is_name(value="al"), True)
        self.assertIs(is_amount(value=1), True)
        self.assertIs(is_fact(fact=("renounced", "al")), True)
        told = Family(facts=[("child", "bo", "al")])
        self.assertEqual((told.children(name="al"), told.parents(name="bo"), told.spouses(name="al")),
                         (["bo"], ["al"], []))
        self.assertEqual((told.day(name="al"), told.has_renounced(name="al"), told.advance(name="al")),
                         (None, False, 0))
        self.assertIs(told.reaches(name="al", wanted="bo"), True)
        self.assertIs(told.reaches(wanted="al", name="bo"), False)

    def test_they_are_defined_in_this_file(self):
        for name in ("is_name", "is_amount", "is_fact", "Family"):
            self.assertEqual(getattr(family, name).__module__, "parcener.family")
        for name in ("children", "parents", "spouses", "day", "has_renounced", "advance", "reaches"):
            self.assertIn(name, vars(Family))


class Spouses(unittest.TestCase):
    def check(self, facts, wanted):
        """Whether al and bo are spouses, seen from both sides."""
        told = Family(facts)
        self.assertEqual(told.spouses("al"), ["bo"] if wanted else [])
        self.assertEqual(told.spouses("bo"), ["al"] if wanted else [])

    def test_wed(self):
        self.check([("wed", "al", "bo")], True)
        self.check([("wed", "bo", "al")], True)
        self.check([("wed", "al", "bo"), ("wed", "bo", "al"), ("wed", "al", "bo")], True)

    def test_parted_alone(self):
        self.check([("parted", "al", "bo")], False)

    def test_wed_and_parted_in_any_order_of_facts_and_names(self):
        for one in [("wed", "al", "bo"), ("wed", "bo", "al")]:
            for two in [("parted", "al", "bo"), ("parted", "bo", "al")]:
                self.check([one, two], False)
                self.check([two, one], False)
                self.check([one, two, one], False)
                self.check([two, one, two], False)

    def test_several_spouses(self):
        facts = [("wed", "di", "al"), ("wed", "al", "cy"), ("wed", "bo", "al"), ("parted", "cy", "al"),
                 ("parted", "bo", "di"), ("wed", "bo", "ed")]
        for order in permutations(facts):
            told = Family(list(order))
            self.assertEqual(told.spouses("al"), ["bo", "di"])
            self.assertEqual(told.spouses("bo"), ["al", "ed"])
            self.assertEqual(told.spouses("cy"), [])
            self.assertEqual(told.spouses("di"), ["al"])
            self.assertEqual(told.spouses("ed"), ["bo"])

    def test_spouses_may_have_died_or_renounced(self):
        self.check([("wed", "al", "bo"), ("died", "bo", 1), ("died", "al", 2), ("renounced", "bo")], True)

    def test_spouses_may_be_kin(self):
        self.check([("wed", "al", "bo"), ("child", "al", "bo")], True)


class Refusing(Checks):
    def test_the_number_of_facts(self):
        self.assertEqual(Family([("renounced", "al")] * 120).advance("al"), 0)
        self.assertEqual(Family([("advance", "al", 1)] * 120).advance("al"), 120)
        self.refused([("renounced", "al")] * 121, 120)
        self.refused([("renounced", "al")] * 122, 120)
        self.refused([("advance", "al", 1)] * 500, 120)

    def test_a_list_that_is_too_long_is_not_read(self):
        self.refused([None] * 121, 120)
        self.refused([("child", "al", "bo"), ("child", "bo", "al")] + [None] * 119, 120)
        self.refused([("child", "al", "bo"), ("child", "bo", "al")] * 61, 120)
        self.refused([("died", "al", 1), ("died", "al", 2)] * 61, 120)

    def test_an_element_that_is_no_fact(self):
        for bad in [None, 0, "child", [], (), ["renounced", "al"], ("renounced",), ("renounced", "crown"),
                    ("child", "al", "al"), ("child", "al"), ("died", "al", -1), ("died", "al", True),
                    ("advance", "al", 1000000001), ("wed", "al", 3), ("parted", "al", "Bo"), ("born", "al", "bo"),
                    ("child", ["al"], "bo"), ("child", "al", ["bo"]), (["child"], "al", "bo")]:
            self.refused([bad], 0)
            self.refused([("renounced", "al"), bad], 1)
            self.refused([("renounced", "al"), bad, ("renounced", "bo")], 1)
            self.refused([("renounced", "al")] * 119 + [bad], 119)

    def test_the_first_index_of_several(self):
        self.refused([("renounced", "al"), None, None], 1)
        third = [("child", "x", "a"), ("child", "x", "b"), ("child", "x", "c")]
        days = [("died", "x", 1), ("died", "x", 2)]
        self.refused(third + days + [None], 2)
        self.refused(days + third + [None], 1)
        self.refused([None] + third + days, 0)
        self.refused(third[:2] + days[:1] + [None] + third[2:] + days[1:], 3)

    def test_a_third_parent(self):
        self.refused([("child", "x", "a"), ("child", "x", "b"), ("child", "x", "c")], 2)
        self.refused([("child", "x", "a"), ("child", "y", "a"), ("child", "x", "b"), ("child", "y", "b"),
                      ("renounced", "c"), ("child", "x", "c")], 5)
        self.refused([("child", "x", "c"), ("child", "x", "b"), ("died", "x", 3), ("child", "x", "a")], 3)
        self.refused([("child", "x", "a"), ("child", "x", "a"), ("child", "x", "b"), ("child", "x", "b"),
                      ("child", "x", "a"), ("child", "x", "d"), ("child", "x", "b")], 5)

    def test_parents_that_are_told_twice_are_no_third_ones(self):
        told = Family([("child", "x", "a"), ("child", "x", "b"), ("child", "x", "a"), ("child", "x", "b")])
        self.assertEqual(told.parents("x"), ["a", "b"])
        self.assertEqual(Family([("child", "x", "a")] * 3).parents("x"), ["a"])

    def test_many_children_of_one_parent(self):
        told = Family([("child", f"c{at}", "a") for at in range(120)])
        self.assertEqual(told.children("a"), sorted(f"c{at}" for at in range(120)))

    def test_a_second_day_of_death(self):
        self.refused([("died", "al", 3), ("died", "al", 4)], 1)
        self.refused([("died", "al", 4), ("died", "al", 3)], 1)
        self.refused([("died", "al", 0), ("died", "al", 3)], 1)
        self.refused([("died", "al", 3), ("died", "al", 0)], 1)
        self.refused([("died", "al", 3), ("died", "bo", 4), ("died", "al", 3), ("died", "bo", 5)], 3)

    def test_a_second_day_of_death_that_is_the_first_one(self):
        told = Family([("died", "al", 3), ("died", "bo", 0), ("died", "al", 3), ("died", "bo", 0), ("died", "cy", 3)])
        self.assertEqual((told.day("al"), told.day("bo"), told.day("cy")), (3, 0, 3))


class Repeating(unittest.TestCase):
    names = ["al", "bo", "cy", "di", "ed"]
    facts = [("child", "cy", "al"), ("child", "cy", "bo"), ("wed", "al", "bo"), ("wed", "al", "di"),
             ("parted", "di", "al"), ("died", "al", 4), ("renounced", "ed"), ("child", "di", "cy")]

    def test_facts_that_are_told_twice_count_once(self):
        once = known(Family(self.facts), self.names)
        self.assertEqual(once, plainly_known(self.facts, self.names))
        for fact in self.facts:
            self.assertEqual(known(Family(self.facts + [fact]), self.names), once)
            self.assertEqual(known(Family([fact] + self.facts), self.names), once)
        self.assertEqual(known(Family(self.facts + self.facts), self.names), once)

    def test_advances_that_are_told_twice_are_added_up(self):
        told = Family(self.facts + [("advance", "cy", 6), ("advance", "cy", 6)])
        self.assertEqual(told.advance("cy"), 12)

    def test_the_order_of_the_facts_plays_no_part(self):
        facts = self.facts + [("advance", "cy", 6), ("advance", "cy", 7)]
        wanted = known(Family(facts), self.names)
        dice = random.Random(3)
        for _ in range(300):
            self.assertEqual(known(Family(dice.sample(facts, len(facts))), self.names), wanted)


class Rings(Checks):
    def test_one_person(self):
        # The names of a fact differ, so that nobody can be told to be their own child.
        self.refused([("renounced", "al"), ("child", "al", "al")], 1)

    def test_two_persons(self):
        self.circular([("child", "al", "bo"), ("child", "bo", "al")], "al")
        self.circular([("child", "bo", "al"), ("child", "al", "bo")], "al")

    def test_more_persons(self):
        facts = [("child", "al", "bo"), ("child", "bo", "cy"), ("child", "cy", "al")]
        for order in permutations(facts):
            self.circular(list(order), "al")
        self.circular([("child", f"p{at}", f"p{(at + 1) % 120}") for at in range(120)], "p0")
        self.circular([("child", f"p{at}", f"p{at % 15 + 1}") for at in range(1, 16)], "p1")

    def test_the_least_name_is_the_least_string(self):
        self.circular([("child", "2", "10"), ("child", "10", "2")], "10")
        self.circular([("child", "b", "a9"), ("child", "a9", "b")], "a9")

    def test_two_rings(self):
        one = [("child", "cy", "di"), ("child", "di", "cy")]
        two = [("child", "bo", "ed"), ("child", "ed", "bo")]
        self.circular(one + two, "bo")
        self.circular(two + one, "bo")

    def test_rings_that_share_a_person(self):
        self.circular([("child", "x", "b"), ("child", "b", "x"), ("child", "x", "a"), ("child", "a", "x")], "a")

    def test_persons_above_a_ring(self):
        ring = [("child", "mo", "no"), ("child", "no", "mo")]
        self.circular(ring + [("child", "mo", "al")], "mo")
        self.circular([("child", "al", "ab"), ("child", "mo", "al")] + ring, "mo")

    def test_persons_below_a_ring(self):
        ring = [("child", "mo", "no"), ("child", "no", "mo")]
        self.circular(ring + [("child", "al", "mo")], "mo")
        self.circular([("child", "ab", "al"), ("child", "al", "mo")] + ring, "mo")

    def test_persons_between_two_rings(self):
        facts = [("child", "ox", "yo"), ("child", "yo", "ox"), ("child", "al", "yo"), ("child", "pi", "al"),
                 ("child", "pi", "qi"), ("child", "qi", "pi")]
        self.circular(facts, "ox")

    def test_a_ring_and_a_bad_fact(self):
        ring = [("child", "al", "bo"), ("child", "bo", "al")]
        self.refused(ring + [None], 2)
        self.refused([None] + ring, 0)
        self.refused(ring + [("died", "al", 1), ("died", "al", 2)], 3)
        self.refused(ring + [("child", "al", "cy"), ("child", "al", "di")], 3)

    def test_shared_descendants_are_no_ring(self):
        told = Family([("child", "b", "a"), ("child", "c", "a"), ("child", "d", "b"), ("child", "d", "c")])
        self.assertIs(told.reaches("a", "d"), True)
        told = Family([("child", "b", "a"), ("child", "c", "a"), ("child", "c", "b")])
        self.assertEqual(told.children("a"), ["b", "c"])

    def test_spouses_are_no_ring(self):
        Family([("wed", "al", "bo"), ("wed", "bo", "al"), ("child", "cy", "al"), ("wed", "cy", "al")])


class Keeping(unittest.TestCase):
    facts = [("child", "bo", "al"), ("child", "cy", "al"), ("child", "bo", "di"), ("wed", "al", "di"),
             ("parted", "al", "ed"), ("died", "al", 1), ("renounced", "cy"), ("advance", "bo", 2), ("advance", "bo", 2)]
    names = ["al", "bo", "cy", "di", "ed"]

    def test_the_arguments_are_not_modified(self):
        facts = list(self.facts)
        known(Family(facts), self.names)
        self.assertEqual(facts, self.facts)
        for bad in [facts + [None], [("child", "al", "bo")] + facts]:
            copied = list(bad)
            self.assertRaises(ValueError, Family, bad)
            self.assertEqual(bad, copied)

    def test_later_changes_of_the_list_play_no_part(self):
        facts = list(self.facts)
        told = Family(facts)
        before = known(told, self.names)
        facts.clear()
        self.assertEqual(known(told, self.names), before)

    def test_changes_of_an_answer_play_no_part(self):
        told = Family(self.facts)
        before = copy.deepcopy(known(told, self.names))
        for name in self.names + ["zoe"]:
            for answer in (told.children(name), told.parents(name), told.spouses(name)):
                self.assertIs(type(answer), list)
                answer.append("zoe")
                answer.reverse()
        self.assertEqual(known(told, self.names), before)
        self.assertEqual(known(told, ["zoe"]), {"zoe": ([], [], [], None, False, 0, [])})

    def test_asking_changes_nothing(self):
        told = Family(self.facts)
        before = known(told, self.names + ["zoe"])
        self.assertEqual(known(told, self.names + ["zoe"]), before)


class AgainstThePlainWords(Checks):
    def test_many_families(self):
        dice = random.Random(22)
        names = ["a", "b", "c", "d", "e", "f"]
        seen = {BadFact: 0, Circular: 0, None: 0}
        for _ in range(4000):
            facts = []
            for _ in range(dice.randint(0, 12)):
                word = dice.choice(["child", "child", "child", "wed", "parted", "died", "renounced", "advance"])
                one, two = dice.sample(names, 2)
                if word in ("died", "advance"):
                    two = dice.randint(0, 1)
                facts.append((word, one) if word == "renounced" else (word, one, two))
            fault = plain_fault(facts)
            seen[fault and fault[0]] += 1
            if fault is None:
                self.assertEqual(known(Family(facts), names), plainly_known(facts, names))
            elif fault[0] is BadFact:
                self.refused(facts, fault[1])
            else:
                self.circular(facts, fault[1])
        self.assertGreater(min(seen.values()), 150)


if __name__ == "__main__":
    unittest.main()
