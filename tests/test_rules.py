"""Points 3.1 and 3.2, and parcener/rules.py of the interface."""

import copy
import unittest
from fractions import Fraction
from itertools import product

from helper import OF_OTHER_KINDS, Equal
from parcener import rules
from parcener.errors import BadRules
from parcener.family import Family
from parcener.rules import Rules, survives

PAIRS = ((1, 2), (3, 4), (1, 1), (1, 1))
NO_INTEGERS = [value for value in OF_OTHER_KINDS if type(value) is not int] + ["0", "3", 0.0, 2.5, [1], (1,), Equal()]


class Checks(unittest.TestCase):
    def refused(self, why, **parts):
        """These arguments are refused with BadRules(why)."""
        with self.assertRaises(BadRules) as caught:
            Rules(**parts)
        self.assertEqual(caught.exception.why, why, parts)


class Days(Checks):
    def test_in_order(self):
        for days in (0, 1, 2, 30, 500, 999, 1000):
            self.assertEqual(Rules(days=days).days, days)
            self.assertIs(type(Rules(days=days).days), int)

    def test_too_few_and_too_many(self):
        for days in (-1, -2, -1000, 1001, 1002, 1000000000, 1000000001, 10**30):
            self.refused("days", days=days)

    def test_values_of_other_kinds(self):
        for days in NO_INTEGERS:
            self.refused("days", days=days)

    def test_true_and_false(self):
        self.refused("days", days=True)
        self.refused("days", days=False)


class Modes(Checks):
    def test_in_order(self):
        for mode in ("stocks", "heads"):
            self.assertEqual(Rules(mode=mode).mode, mode)

    def test_other_words(self):
        for mode in ("", "stock", "head", "Stocks", "HEADS", "stocks ", " heads", "stocksheads", "rows", "s"):
            self.refused("mode", mode=mode)

    def test_values_of_other_kinds(self):
        for mode in OF_OTHER_KINDS + [b"stocks", b"heads", ["stocks"], ("heads",), {"stocks"}, {"heads": 1}, Equal()]:
            self.refused("mode", mode=mode)


class Rows(Checks):
    def test_in_order(self):
        for rows in range(4):
            made = Rules(rows=rows, spouse=PAIRS[:rows + 1])
            self.assertEqual(made.rows, rows)
            self.assertIs(type(made.rows), int)

    def test_too_few_and_too_many(self):
        for rows in (-1, -2, 4, 5, 1000, 10**30):
            self.refused("rows", rows=rows)
            for many in range(7):
                self.refused("rows", rows=rows, spouse=((1, 2),) * many)

    def test_values_of_other_kinds(self):
        for rows in NO_INTEGERS:
            for many in range(5):
                self.refused("rows", rows=rows, spouse=((1, 2),) * many)

    def test_true_and_false(self):
        self.refused("rows", rows=True, spouse=PAIRS[:2])
        self.refused("rows", rows=False, spouse=PAIRS[:1])


class Spouse(Checks):
    def refused_at_each_place(self, pair):
        """A tuple in which this stands in the place of one of the pairs is refused."""
        for rows in range(4):
            for at in range(rows + 1):
                pairs = list(PAIRS[:rows + 1])
                pairs[at] = pair
                self.refused("spouse", rows=rows, spouse=tuple(pairs))

    def test_one_pair_for_each_row(self):
        for rows, many in product(range(4), range(7)):
            spouse = ((1, 2),) * many
            if many == rows + 1:
                self.assertEqual(Rules(rows=rows, spouse=spouse).rows, rows)
            else:
                self.refused("spouse", rows=rows, spouse=spouse)

    def test_the_default_belongs_to_three_rows(self):
        for rows in range(3):
            self.refused("spouse", rows=rows)
        self.assertEqual(Rules(rows=3).rows, 3)
        self.refused("spouse", spouse=((1, 2),))

    def test_pairs_in_order(self):
        for pair in [(0, 1), (1, 1), (0, 1000), (1, 1000), (999, 1000), (1000, 1000), (0, 5), (5, 5), (2, 4)]:
            for rows in range(4):
                made = Rules(rows=rows, spouse=(pair,) * (rows + 1))
                for row in range(rows + 1):
                    part = Fraction(*pair)
                    self.assertEqual(made.spouse_part(row), (part.numerator, part.denominator))

    def test_the_first_is_greater_than_the_second(self):
        for pair in [(2, 1), (3, 2), (1000, 999), (6, 5), (1000, 1)]:
            self.refused_at_each_place(pair)

    def test_the_second_is_too_small_or_too_great(self):
        for pair in [(0, 0), (1, 0), (0, -1), (-1, -1), (-2, -1), (1, -2), (1, 1001), (0, 1001), (1001, 1001),
                     (1000, 1001), (1, 10**30)]:
            self.refused_at_each_place(pair)

    def test_the_first_is_too_small(self):
        for pair in [(-1, 1), (-1, 1000), (-5, 5)]:
            self.refused_at_each_place(pair)

    def test_true_and_false(self):
        for pair in [(True, 1), (False, 1), (1, True), (0, True), (True, True), (False, True), (1, False),
                     (True, 2), (False, 2)]:
            self.refused_at_each_place(pair)

    def test_pairs_of_other_lengths(self):
        for pair in [(), (1,), (1, 2, 3), (1, 2, 2), (1, 1, 1, 1), ((1, 2),), ((1, 2), (1, 2))]:
            self.refused_at_each_place(pair)

    def test_pairs_of_other_kinds(self):
        for value in OF_OTHER_KINDS + [[1, 2], {1: 2}, {1, 2}, "12", b"12", Equal()]:
            self.refused_at_each_place(value)

    def test_integers_of_other_kinds(self):
        for value in NO_INTEGERS:
            self.refused_at_each_place((value, 1000))
            self.refused_at_each_place((0, value))
            self.refused_at_each_place((value, value))

    def test_values_of_other_kinds(self):
        for rows in range(4):
            pairs = PAIRS[:rows + 1]
            for value in OF_OTHER_KINDS + [list(pairs), {pair: True for pair in pairs}, (list(pairs),), (pairs,),
                                           "1" * (rows + 1), Equal()]:
                self.refused("spouse", rows=rows, spouse=value)

    def test_a_pair_instead_of_a_tuple_of_one(self):
        self.refused("spouse", rows=0, spouse=(1, 2))
        self.refused("spouse", rows=1, spouse=(1, 2))


class FirstOfSeveral(Checks):
    def test_all_choices(self):
        good = {"days": 3, "mode": "heads", "rows": 1, "spouse": ((1, 2), (1, 3))}
        bad = {"days": [-1, 1001, True, None], "mode": ["", None, 1], "rows": [-1, 4, False, None],
               "spouse": [(), ((1, 2),), ((2, 1), (1, 2)), None]}
        for choice in product([False, True], repeat=4):
            wrong = [part for part, is_wrong in zip(good, choice) if is_wrong]
            for worths in product(*[bad[part] for part in wrong]):
                parts = good | dict(zip(wrong, worths))
                if wrong:
                    self.refused(wrong[0], **parts)
                else:
                    self.assertEqual(Rules(**parts).rows, 1)

    def test_spouse_is_read_behind_rows(self):
        self.refused("rows", rows=None, spouse=None)
        self.refused("rows", rows="3", spouse=PAIRS)
        self.refused("rows", spouse=(), rows=-1)


class Making(Checks):
    def test_the_defaults(self):
        made = Rules()
        self.assertEqual((made.days, made.mode, made.rows), (0, "stocks", 3))
        self.assertIs(made.steps_in, True)
        self.assertEqual([made.spouse_part(row) for row in range(4)], [(1, 2), (3, 4), (1, 1), (1, 1)])
        self.assertEqual([made.others_part(row) for row in range(4)], [(1, 2), (1, 4), (0, 1), (0, 1)])

    def test_steps_in_is_kept_as_it_is(self):
        for value in (True, False):
            self.assertIs(Rules(steps_in=value).steps_in, value)

    def test_each_part_is_kept_in_its_place(self):
        made = Rules(days=7, mode="heads", rows=2, spouse=((1, 5), (2, 5), (3, 5)), steps_in=False)
        self.assertEqual((made.days, made.mode, made.rows, made.steps_in), (7, "heads", 2, False))
        self.assertEqual([made.spouse_part(row) for row in range(3)], [(1, 5), (2, 5), (3, 5)])

    def test_the_arguments_are_passed_by_keyword(self):
        self.assertRaises(TypeError, Rules, 0)

    def test_the_arguments_are_not_modified(self):
        spouse = ((1, 2), (2, 4), (0, 3), (3, 3))
        before = copy.deepcopy(spouse)
        made = Rules(spouse=spouse)
        for row in range(4):
            made.spouse_part(row)
            made.others_part(row)
        self.assertEqual(spouse, before)
        pairs = [[1, 2]]
        self.refused("spouse", rows=0, spouse=pairs)
        self.assertEqual(pairs, [[1, 2]])

    def test_two_books_do_not_mix(self):
        one = Rules(days=1, mode="heads", rows=0, spouse=((1, 3),), steps_in=False)
        two = Rules(days=2)
        self.assertEqual((one.days, one.mode, one.rows, one.steps_in, one.spouse_part(0)),
                         (1, "heads", 0, False, (1, 3)))
        self.assertEqual((two.days, two.mode, two.rows, two.steps_in, two.spouse_part(0)),
                         (2, "stocks", 3, True, (1, 2)))

    def test_they_are_defined_in_this_file(self):
        for name in ("Rules", "survives"):
            self.assertEqual(getattr(rules, name).__module__, "parcener.rules")
        for name in ("spouse_part", "others_part"):
            self.assertIn(name, vars(Rules))


class Parts(unittest.TestCase):
    def test_lowest_terms(self):
        made = Rules(spouse=((0, 5), (5, 5), (4, 6), (250, 1000)))
        self.assertEqual([made.spouse_part(row) for row in range(4)], [(0, 1), (1, 1), (2, 3), (1, 4)])
        self.assertEqual([made.others_part(row) for row in range(4)], [(1, 1), (0, 1), (1, 3), (3, 4)])

    def test_many_pairs(self):
        for second in range(1, 40):
            for first in range(second + 1):
                made = Rules(rows=0, spouse=((first, second),))
                part, other = Fraction(first, second), 1 - Fraction(first, second)
                for found, wanted in [(made.spouse_part(0), part), (made.others_part(row=0), other)]:
                    self.assertEqual(found, (wanted.numerator, wanted.denominator))
                    self.assertIs(type(found), tuple)
                    self.assertEqual([type(value) for value in found], [int, int])

    def test_the_name_of_the_argument(self):
        self.assertEqual(Rules().spouse_part(row=1), (3, 4))
        self.assertEqual(Rules().others_part(row=1), (1, 4))


class Surviving(unittest.TestCase):
    def check(self, facts, days, wanted):
        """Whether bo survives al, whatever the other rules are."""
        for mode, steps_in in product(("stocks", "heads"), (True, False)):
            book = Rules(days=days, mode=mode, steps_in=steps_in)
            self.assertIs(survives(Family(facts), book, "al", "bo"), wanted, (facts, days))

    def test_the_dead_person(self):
        for facts in [[("died", "al", 5)], [("died", "al", 5), ("renounced", "al")], [("died", "al", 0)]]:
            self.assertIs(survives(Family(facts), Rules(), "al", "al"), False)
            self.assertIs(survives(Family(facts), Rules(days=1000), "al", "al"), False)

    def test_somebody_who_has_not_died(self):
        self.check([("died", "al", 5), ("child", "bo", "al")], 0, True)
        self.check([("died", "al", 5), ("child", "bo", "al")], 1000, True)
        self.check([("died", "al", 0), ("wed", "bo", "al")], 0, True)

    def test_somebody_of_whom_no_fact_tells(self):
        self.check([("died", "al", 5)], 0, True)
        self.check([("died", "al", 5), ("died", "cy", 2), ("renounced", "cy")], 1000, True)

    def test_somebody_who_has_renounced(self):
        self.check([("died", "al", 5), ("renounced", "bo")], 0, False)
        self.check([("renounced", "bo"), ("died", "al", 5), ("died", "bo", 6)], 0, False)
        self.check([("died", "al", 5), ("died", "bo", 4000), ("renounced", "bo")], 0, False)
        self.check([("died", "al", 5), ("renounced", "cy")], 0, True)

    def test_days_of_death_without_days(self):
        for day, wanted in [(0, False), (4, False), (5, False), (6, True), (7, True), (1000000000, True)]:
            self.check([("died", "al", 5), ("died", "bo", day)], 0, wanted)

    def test_days_of_death_with_days(self):
        for day, wanted in [(0, False), (4, False), (5, False), (6, False), (34, False), (35, False), (36, True),
                            (37, True)]:
            self.check([("died", "al", 5), ("died", "bo", day)], 30, wanted)
        self.check([("died", "al", 5), ("died", "bo", 1005)], 1000, False)
        self.check([("died", "al", 5), ("died", "bo", 1006)], 1000, True)

    def test_the_day_zero(self):
        self.check([("died", "al", 0), ("died", "bo", 0)], 0, False)
        self.check([("died", "al", 0), ("died", "bo", 1)], 0, True)
        self.check([("died", "al", 1), ("died", "bo", 0)], 0, False)
        self.check([("died", "al", 0), ("died", "bo", 1)], 1, False)

    def test_the_last_day(self):
        self.check([("died", "al", 1000000000), ("died", "bo", 1000000000)], 1000, False)
        self.check([("died", "bo", 1000000000), ("died", "al", 999999000)], 1000, False)
        self.check([("died", "bo", 1000000000), ("died", "al", 999998999)], 1000, True)

    def test_it_depends_on_the_dead_person(self):
        told = Family([("died", "al", 5), ("died", "bo", 9), ("died", "cy", 7)])
        found = {(dead, name): survives(told, Rules(days=2), dead, name) for dead in ("al", "bo", "cy")
                 for name in ("al", "bo", "cy", "di")}
        self.assertEqual(sorted(pair for pair in found if found[pair]),
                         [("al", "bo"), ("al", "di"), ("bo", "di"), ("cy", "di")])

    def test_kinship_and_the_rest_of_the_facts_play_no_part(self):
        facts = [("died", "al", 5), ("died", "bo", 8), ("child", "al", "bo"), ("wed", "al", "bo"),
                 ("parted", "al", "bo"), ("advance", "bo", 100), ("renounced", "al")]
        self.check(facts, 2, True)
        self.check(facts, 3, False)

    def test_the_names_of_the_arguments(self):
        told = Family([("died", "al", 5), ("died", "bo", 5)])
        self.assertIs(survives(family=told, rules=Rules(), dead="al", name="cy"), True)
        self.assertIs(survives(name="bo", dead="al", rules=Rules(), family=told), False)


if __name__ == "__main__":
    unittest.main()
