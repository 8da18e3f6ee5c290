"""The interface of parcener/cases.py."""

import copy
import random
import unittest

from helper import PlainCase, born, died, made, random_case
from parcener import cases
from parcener.cases import Case
from parcener.errors import BadFact, BadWill, Circular
from parcener.estates import Estate
from parcener.family import Family
from parcener.rules import Rules

AL_DIED = ("died", "al", 5)
RING = [("child", "bo", "al"), ("child", "al", "bo")]
NO_WILL = [("sum", 1, 5, ("al",)), ("sum", 2, 5, ())]


def case_of(facts, dead="al", will=(), **book):
    """A case with an estate of 10 coins."""
    return Case(dead, facts, rules=Rules(**book), estate=Estate(10), will=will)


class Checks(unittest.TestCase):
    def refused(self, at, facts, dead="al", will=(), **book):
        """These arguments are refused with BadFact(at)."""
        with self.assertRaises(BadFact) as caught:
            case_of(facts, dead, will, **book)
        self.assertEqual(caught.exception.at, at)
        self.assertIs(type(caught.exception.at), int)


class Making(Checks):
    def test_the_attributes(self):
        rules, estate = Rules(days=3), Estate(10)
        will = [("sum", 1, 5, ("bo",)), ("rest", 2, 1, ("cy", "bo")), ("revoke", 1), ("thing", 3, "ring", ("di",))]
        case = Case("al", born("al: bo") + [AL_DIED], rules=rules, estate=estate, will=will)
        self.assertEqual(case.dead, "al")
        self.assertIs(type(case.family), Family)
        self.assertEqual(case.family.children("al"), ["bo"])
        self.assertEqual(case.family.day("al"), 5)
        self.assertIs(case.rules, rules)
        self.assertIs(case.estate, estate)
        self.assertEqual(case.gifts, [("rest", 2, 1, ("cy", "bo")), ("thing", 3, "ring", ("di",))])
        self.assertIs(type(case.gifts), list)

    def test_the_gifts_that_stand(self):
        gift = ("sum", 1, 5, ("bo",))
        self.assertEqual(case_of([AL_DIED]).gifts, [])
        self.assertEqual(case_of([AL_DIED], will=[]).gifts, [])
        self.assertEqual(case_of([AL_DIED], will=[gift]).gifts, [gift])
        self.assertEqual(case_of([AL_DIED], will=[gift, ("revoke",)]).gifts, [])
        self.assertEqual(case_of([AL_DIED], will=[gift, ("sum", 1, 6, ("bo",))]).gifts, [("sum", 1, 6, ("bo",))])

    def test_what_follows_the_facts_is_passed_by_keyword(self):
        with self.assertRaises(TypeError):
            Case("al", [AL_DIED], Rules(), Estate(1))
        self.assertEqual(Case(dead="al", facts=[AL_DIED], rules=Rules(), estate=Estate(1)).dead, "al")

    def test_several_cases_do_not_mix(self):
        one, two = case_of([AL_DIED] + born("al: bo")), case_of([("died", "bo", 1)], "bo")
        self.assertEqual((one.dead, two.dead, one.family.children("al"), two.family.children("al")),
                         ("al", "bo", ["bo"], []))


class Refusing(Checks):
    def test_the_dead_person_has_not_died(self):
        self.refused(0, [])
        self.refused(1, born("al: bo"))
        self.refused(3, [("renounced", "al"), ("died", "bo", 5), ("wed", "al", "bo")])
        self.refused(2, [("advance", "al", 5), ("child", "al", "bo")])

    def test_no_fact_tells_of_the_dead_person(self):
        self.refused(0, [], "zoe")
        self.refused(1, [AL_DIED], "zoe")
        self.refused(2, [AL_DIED, AL_DIED], "zoe")
        self.refused(120, died(" ".join(f"p{at}" for at in range(120))), "zoe")

    def test_the_number_of_all_facts_counts(self):
        for many in (1, 2, 7, 119, 120):
            self.refused(many, [("renounced", "al")] * many)
            self.refused(many, [("advance", f"p{at}", 1) for at in range(many)])

    def test_a_death_on_the_day_zero(self):
        self.assertEqual(case_of([("died", "al", 0)]).family.day("al"), 0)
        self.assertEqual(case_of([("renounced", "bo"), ("died", "al", 0)]).spouses(), [])

    def test_facts_that_are_not_in_order(self):
        self.refused(0, [("died", "al", -1)])
        self.refused(1, [AL_DIED, ("died", "al", 6)])
        self.refused(3, [AL_DIED] + born("b: al, c: al, d: al"))
        self.refused(120, [AL_DIED] * 121)
        with self.assertRaises(Circular) as caught:
            case_of(RING + [AL_DIED])
        self.assertEqual(caught.exception.name, "al")

    def test_a_will_that_is_not_in_order(self):
        for will, at in [(NO_WILL, 1), ([None], 0), ([("revoke",)] * 61, 60)]:
            with self.assertRaises(BadWill) as caught:
                case_of([AL_DIED], will=will)
            self.assertEqual(caught.exception.at, at)

    def test_the_facts_come_before_the_will(self):
        self.refused(1, [AL_DIED, None], will=NO_WILL)
        self.refused(120, [AL_DIED] * 121, will=NO_WILL)
        with self.assertRaises(Circular):
            case_of(RING + [AL_DIED], will=NO_WILL)

    def test_the_facts_come_before_the_death(self):
        self.refused(0, [None], "zoe")
        with self.assertRaises(Circular):
            case_of(RING)

    def test_the_will_comes_before_the_death(self):
        for facts in ([], born("al: bo")):
            with self.assertRaises(BadWill) as caught:
                case_of(facts, will=NO_WILL)
            self.assertEqual(caught.exception.at, 1)


class Surviving(Checks):
    facts = [AL_DIED, ("died", "bo", 4), ("died", "cy", 5), ("died", "di", 6), ("died", "ed", 8), ("renounced", "fay")]

    def test_survives(self):
        case = case_of(self.facts)
        for name in ("di", "ed", "gus", "zoe"):
            self.assertIs(case.survives(name), True, name)
        for name in ("al", "bo", "cy", "fay"):
            self.assertIs(case.survives(name), False, name)

    def test_the_days_of_the_rules(self):
        for days, wanted in [(0, ["di", "ed"]), (1, ["ed"]), (2, ["ed"]), (3, []), (1000, [])]:
            case = case_of(self.facts, days=days)
            self.assertEqual([name for name in ("bo", "cy", "di", "ed") if case.survives(name)], wanted)

    def test_another_dead_person(self):
        case = case_of(self.facts, "cy")
        self.assertEqual([name for name in ("al", "bo", "cy", "di", "ed") if case.survives(name)], ["di", "ed"])
        case = case_of(self.facts, "bo")
        self.assertEqual([name for name in ("al", "bo", "cy", "di", "ed") if case.survives(name)],
                         ["al", "cy", "di", "ed"])


class Spouses(Checks):
    def spouses(self, facts, wanted, **book):
        """The spouses of al, whichever way the facts are told."""
        for told in (facts, facts[::-1]):
            found = case_of(told + [AL_DIED], **book).spouses()
            self.assertEqual(found, wanted)
            self.assertIs(type(found), list)

    def test_none(self):
        self.spouses([], [])
        self.spouses([("wed", "bo", "cy")], [])
        self.spouses(born("al: bo, cy: bo"), [])

    def test_ascending(self):
        self.spouses([("wed", "al", "ed")], ["ed"])
        self.spouses([("wed", "ed", "al")], ["ed"])
        self.spouses([("wed", "al", "ed"), ("wed", "bo", "al"), ("wed", "al", "cy2"), ("wed", "cy10", "al")],
                     ["bo", "cy10", "cy2", "ed"])

    def test_without_those_who_are_parted(self):
        self.spouses([("wed", "al", "ed"), ("parted", "al", "ed")], [])
        self.spouses([("wed", "al", "ed"), ("wed", "al", "bo"), ("parted", "ed", "al")], ["bo"])
        self.spouses([("wed", "al", "ed"), ("parted", "ed", "bo")], ["ed"])

    def test_without_those_who_do_not_survive(self):
        wed = [("wed", "al", name) for name in ("fay", "ed", "di", "cy", "bo")]
        lost = [("died", "bo", 4), ("died", "cy", 5), ("died", "di", 6), ("renounced", "fay")]
        self.spouses(wed + lost, ["di", "ed"])
        self.spouses(wed + [("died", "bo", 9), ("died", "di", 8)], ["bo", "cy", "ed", "fay"], days=3)
        self.spouses(wed + [("renounced", name) for name in ("fay", "ed", "di", "cy", "bo")], [])

    def test_those_of_the_dead_person(self):
        case = case_of([AL_DIED, ("wed", "al", "ed"), ("wed", "ed", "fay"), ("died", "ed", 9)], "ed")
        self.assertEqual(case.spouses(), ["fay"])
        case = case_of([("wed", "al", "ed"), ("wed", "ed", "fay"), ("died", "ed", 9)], "ed")
        self.assertEqual(case.spouses(), ["al", "fay"])

    def test_a_list_of_its_own(self):
        case = case_of([AL_DIED, ("wed", "al", "ed")])
        case.spouses().clear()
        self.assertEqual(case.spouses(), ["ed"])


class Near(Checks):
    facts = born("""al: bo cy, bo: di, di: ed, mo: al sis, fa: al hal, sis: nib, nib: tot, hal: hob,
                    gran: mo aunt, aunt: cos, eve: bo""") + [("wed", "al", "eve"), ("died", "bo", 1), AL_DIED]

    def near(self, names, wanted, dead="al"):
        """Whether these are near."""
        for told in (self.facts, self.facts[::-1]):
            case = case_of(told + [("died", dead, 5)], dead)
            for name in names.split():
                self.assertIs(case.is_near(name), wanted, (dead, name))

    def test_descendants_of_the_dead_person(self):
        self.near("bo cy di ed", True)

    def test_descendants_of_a_parent(self):
        self.near("sis hal nib hob tot", True)

    def test_the_dead_person(self):
        self.near("al", True)
        self.near("gran", False, "gran")
        self.near("eve", False, "eve")
        self.near("cos", True, "cos")

    def test_a_parent(self):
        self.near("mo fa", False)
        self.near("eve", False, "bo2")

    def test_those_further_above(self):
        self.near("gran aunt cos", False)
        self.near("mo aunt cos al sis nib bo ed", True, "gran")

    def test_spouses_and_strangers(self):
        self.near("eve zoe crown", False)

    def test_a_parent_below_the_other_parent(self):
        facts = born("fa: mo al, mo: al") + [AL_DIED]
        self.assertIs(case_of(facts).is_near("mo"), True)
        self.assertIs(case_of(facts).is_near("fa"), False)

    def test_without_children_and_parents(self):
        for name in ("al", "bo", "zoe"):
            self.assertIs(case_of([AL_DIED]).is_near(name), False)

    def test_whether_they_survive_plays_no_part(self):
        case = case_of(self.facts + [("renounced", "cy"), ("died", "sis", 2), ("died", "gran", 1)])
        self.assertEqual([name for name in ("cy", "sis", "gran") if case.is_near(name)], ["cy", "sis"])


class FirstTaker(Checks):
    case = case_of([AL_DIED, ("died", "bo", 5), ("died", "cy", 6), ("renounced", "di"), ("renounced", "ed")])

    def test_the_first_who_survives(self):
        for names, wanted in [(("cy",), "cy"), (("zoe",), "zoe"), (("cy", "zoe"), "cy"), (("zoe", "cy"), "zoe"),
                              (("bo", "cy"), "cy"), (("bo", "di", "zoe", "cy"), "zoe"),
                              (("di", "ed", "al", "bo", "cy"), "cy"), (("zoe", "al", "bo"), "zoe"),
                              (("al", "zoe"), "zoe"), (("cy", "cy"), "cy")]:
            self.assertEqual(self.case.first_taker(names), wanted, names)

    def test_nobody(self):
        for names in [("bo",), ("al",), ("di",), ("bo", "di"), ("al", "bo", "di", "ed"), ("ed", "ed")]:
            self.assertIsNone(self.case.first_taker(names), names)

    def test_the_days_of_the_rules(self):
        facts = [AL_DIED, ("died", "bo", 7), ("died", "cy", 9)]
        for days, wanted in [(1, "bo"), (2, "cy"), (3, "cy"), (4, None)]:
            self.assertEqual(case_of(facts, days=days).first_taker(("bo", "cy")), wanted)


class Whole(unittest.TestCase):
    def test_many_cases(self):
        dice = random.Random(61)
        near = []
        for _ in range(300):
            args = random_case(dice)
            case, plain = made(*args), PlainCase(*args)
            names = sorted({name for fact in args[1] for name in fact[1:] if isinstance(name, str)} | {"zoe"})
            self.assertEqual(case.spouses(), plain.widowed)
            for name in names:
                near.append(case.is_near(name))
                self.assertEqual((case.survives(name), near[-1]), (plain.survives(name), plain.near(name)), args)
            for _ in range(5):
                takers = tuple(dice.sample(names, min(len(names), dice.randint(1, 5))))
                alive = [name for name in takers if plain.survives(name)]
                self.assertEqual(case.first_taker(takers), (alive + [None])[0])
        self.assertGreater(min(near.count(True), near.count(False)), 300)

    def test_the_arguments_are_not_modified(self):
        facts = born("al: bo, mo: al") + [("wed", "al", "ed"), AL_DIED]
        will = [("sum", 1, 5, ("bo",)), ("revoke", 1), ("rest", 2, 1, ("ed", "bo"))]
        rules, estate = Rules(), Estate(10, things=[("ring", 5)], debts=[("ed", 1, 2)])
        before = copy.deepcopy((facts, will))
        case = Case("al", facts, rules=rules, estate=estate, will=will)
        case.spouses(), case.is_near("bo"), case.survives("bo"), case.first_taker(("al", "bo"))
        self.assertEqual((facts, will), before)
        self.assertEqual((rules.days, rules.mode, rules.rows, rules.steps_in), (0, "stocks", 3, True))
        self.assertEqual([rules.spouse_part(row) for row in range(4)], [(1, 2), (3, 4), (1, 1), (1, 1)])
        self.assertEqual((estate.coins, estate.things(), estate.debts()), (10, [("ring", 5)], [("ed", 1, 2)]))

    def test_later_changes_of_the_arguments_play_no_part(self):
        facts, will = born("al: bo") + [("wed", "al", "ed"), AL_DIED], [("sum", 1, 5, ("bo",))]
        case = case_of(facts, will=will)
        facts.clear()
        will.clear()
        self.assertEqual((case.spouses(), case.is_near("bo"), case.gifts), (["ed"], True, [("sum", 1, 5, ("bo",))]))

    def test_they_are_defined_in_this_file(self):
        self.assertEqual(cases.Case.__module__, "parcener.cases")
        for name in ("__init__", "survives", "spouses", "is_near", "first_taker"):
            self.assertIn(name, vars(Case))


if __name__ == "__main__":
    unittest.main()
