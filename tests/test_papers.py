"""Points 6.7 and 7.1, and parcener/papers.py of the interface."""

import copy
import random
import unittest
from fractions import Fraction
from itertools import permutations, product

from helper import PlainCase, born, died, made, poured, random_case, whole
from parcener import papers
from parcener.cases import Case
from parcener.division import accepts
from parcener.estates import Estate
from parcener.papers import levels, make_paper
from parcener.rules import Rules

AL_DIED = ("died", "al", 1)


def case_of(facts, will=(), **book):
    """A case of al, who has died on the day 1, with an estate of 10 coins."""
    return Case("al", facts + [AL_DIED], rules=Rules(**book), estate=Estate(10), will=will)


def taken(name, row=-1):
    """The row of a node that takes."""
    return ((name, row), "takes", (), ())


def gone(name, row=-1):
    """The row of a node that is gone and has no parts."""
    return ((name, row), "gone", (), ())


class Levels(unittest.TestCase):
    def check(self, amount, advances, wanted):
        """The levels of an amount, whichever way the advances are told; they come to the amount."""
        for told in permutations(list(advances.items())[:5]):
            told = dict(told)
            told.update(advances)
            before = list(told.items())
            found = levels(amount, told)
            self.assertEqual(found, wanted, (amount, advances))
            self.assertEqual(list(found), sorted(advances))
            self.assertIs(type(found), dict)
            self.assertEqual(sum(whole(found).values()), Fraction(*amount))
            self.assertEqual(list(told.items()), before)

    def test_no_advances(self):
        self.check((12, 1), {"bo": 0, "cy": 0, "di": 0}, {"bo": (4, 1), "cy": (4, 1), "di": (4, 1)})
        self.check((10, 1), {"bo": 0, "cy": 0, "di": 0}, {"bo": (10, 3), "cy": (10, 3), "di": (10, 3)})

    def test_equal_advances(self):
        self.check((12, 1), {"bo": 7, "cy": 7, "di": 7}, {"bo": (4, 1), "cy": (4, 1), "di": (4, 1)})
        self.check((1, 1), {"bo": 1000000000, "cy": 1000000000}, {"bo": (1, 2), "cy": (1, 2)})

    def test_advances_below_the_level(self):
        self.check((12, 1), {"bo": 0, "cy": 3, "di": 6}, {"bo": (7, 1), "cy": (4, 1), "di": (1, 1)})
        self.check((10, 1), {"bo": 1, "cy": 2}, {"bo": (11, 2), "cy": (9, 2)})

    def test_an_advance_at_the_level(self):
        self.check((10, 1), {"bo": 0, "cy": 10}, {"bo": (10, 1), "cy": (0, 1)})
        self.check((12, 1), {"bo": 0, "cy": 6, "di": 9}, {"bo": (9, 1), "cy": (3, 1), "di": (0, 1)})

    def test_advances_beside_the_level(self):
        self.check((10, 1), {"bo": 0, "cy": 9}, {"bo": (19, 2), "cy": (1, 2)})
        self.check((10, 1), {"bo": 0, "cy": 11}, {"bo": (10, 1), "cy": (0, 1)})
        self.check((12, 1), {"bo": 0, "cy": 6, "di": 10}, {"bo": (9, 1), "cy": (3, 1), "di": (0, 1)})
        self.check((12, 1), {"bo": 0, "cy": 6, "di": 8}, {"bo": (26, 3), "cy": (8, 3), "di": (2, 3)})

    def test_some_advances_above_the_level(self):
        self.check((12, 1), {"bo": 0, "cy": 100, "di": 2}, {"bo": (7, 1), "cy": (0, 1), "di": (5, 1)})
        self.check((12, 1), {"bo": 50, "cy": 100, "di": 2}, {"bo": (0, 1), "cy": (0, 1), "di": (12, 1)})
        self.check((5, 1), {"bo": 4, "cy": 4, "di": 9, "ed": 9},
                   {"bo": (5, 2), "cy": (5, 2), "di": (0, 1), "ed": (0, 1)})

    def test_all_advances_but_one_are_above_the_level(self):
        self.check((3, 1), {"bo": 20, "cy": 10, "di": 30}, {"bo": (0, 1), "cy": (3, 1), "di": (0, 1)})

    def test_the_amount_is_less_than_what_the_advances_differ_by(self):
        self.check((1, 1), {"bo": 1000, "cy": 1001, "di": 1001}, {"bo": (1, 1), "cy": (0, 1), "di": (0, 1)})
        self.check((1, 2), {"bo": 1000, "cy": 1001}, {"bo": (1, 2), "cy": (0, 1)})

    def test_nothing(self):
        for advances in ({"bo": 0}, {"bo": 7}, {"bo": 0, "cy": 0}, {"bo": 3, "cy": 7, "di": 3}, {"bo": 9, "cy": 0}):
            self.check((0, 1), advances, {name: (0, 1) for name in advances})

    def test_amounts_that_are_no_whole_numbers(self):
        self.check((1, 3), {"bo": 0, "cy": 0}, {"bo": (1, 6), "cy": (1, 6)})
        self.check((7, 2), {"bo": 1, "cy": 2, "di": 3}, {"bo": (13, 6), "cy": (7, 6), "di": (1, 6)})
        self.check((5, 2), {"bo": 1, "cy": 2, "di": 3}, {"bo": (7, 4), "cy": (3, 4), "di": (0, 1)})
        self.check((7, 1000003), {"bo": 5, "cy": 5, "di": 6},
                   {"bo": (7, 2000006), "cy": (7, 2000006), "di": (0, 1)})

    def test_one_name(self):
        for amount, advance in product([(0, 1), (1, 1), (10, 1), (2, 7), (120000000001, 1)], [0, 1, 5, 1000000000]):
            self.check(amount, {"bo": advance}, {"bo": amount})

    def test_the_names_ascend_as_strings(self):
        names = ["p2", "p10", "b", "ab", "a", "0"]
        found = levels((6, 1), {name: 0 for name in names})
        self.assertEqual(list(found.items()), [(name, (1, 1)) for name in ["0", "a", "ab", "b", "p10", "p2"]])

    def test_great_numbers(self):
        self.check((10**12, 1), {"bo": 10**9, "cy": 0}, {"bo": (499500000000, 1), "cy": (500500000000, 1)})
        self.check((1, 10**20), {"bo": 10**11, "cy": 10**11}, {"bo": (1, 2 * 10**20), "cy": (1, 2 * 10**20)})

    def test_small_numbers_against_the_plain_words(self):
        for top, bottom in product(range(13), (1, 2, 3)):
            amount = Fraction(top, bottom)
            for numbers in product(range(5), repeat=3):
                advances = dict(zip(("cy", "bo", "di"), numbers))
                found = levels((amount.numerator, amount.denominator), advances)
                self.assertEqual(whole(found), poured(amount, advances), (amount, advances))
                self.assertTrue(all(share == (Fraction(*share).numerator, Fraction(*share).denominator)
                                    for share in found.values()))

    def test_many_names(self):
        dice = random.Random(67)
        for many in (10, 50, 119):
            advances = {f"p{at}": dice.randint(0, 1000) for at in range(many)}
            for amount in (1, 77, 1000, 100000):
                self.assertEqual(whole(levels((amount, 1), advances)), poured(Fraction(amount), advances))


class Checks(unittest.TestCase):
    def paper(self, wanted, facts, will=(), **book):
        """The paper of al, whichever way the facts are told; the judge accepts it."""
        for told in (facts, facts[::-1], facts + [fact for fact in facts if fact[0] != "advance"]):
            case = case_of(told, will, **book)
            self.assertEqual(make_paper(case), wanted)
            self.assertIs(accepts(case, make_paper(case)), True)

    def descent(self, row, rows, facts, /, **book):
        """The paper of al consists of this line for descent alone."""
        self.paper((("descent", row, rows),), facts, **book)

    def line(self, how, rows, facts, takers, /, **book):
        """The line of a gift to these takers, whatever it gives, is this one."""
        for gift in (("thing", 7, "ring", takers), ("sum", 7, 0, takers), ("sum", 7, 5, takers),
                     ("rest", 7, 1, takers)):
            case = case_of(facts, [gift], **book)
            paper = make_paper(case)
            self.assertEqual(len(paper), 2)
            self.assertEqual(paper[0], ("gift", 7, how, rows))
            self.assertEqual(paper[1:], make_paper(case_of(facts, **book)))
            self.assertIs(accepts(case, paper), True)


class Descent(Checks):
    def test_the_row_zero(self):
        self.descent(0, (taken("bo"), taken("cy"), (("al", 0), "divides", (("bo", -1), ("cy", -1)), ())),
                     born("al: bo cy"))
        self.descent(0, (gone("bo"), taken("di"), (("cy", -1), "divides", (("di", -1),), ()),
                         (("al", 0), "divides", (("cy", -1),), (("bo", -1),))),
                     born("al: bo cy, cy: di") + died("bo cy"))

    def test_the_row_zero_by_heads(self):
        self.descent(0, (taken("di"), taken("ed"), (("al", 0), "divides", (("di", -1), ("ed", -1)), ())),
                     born("al: bo cy, cy: di, bo: ed") + died("bo cy"), mode="heads")

    def test_nobody(self):
        self.descent(-1, (gone("al", 0), gone("al", 1), gone("al", 2), gone("al", 3)), [])
        self.descent(-1, (gone("al", 0), gone("al", 1), gone("al", 2)), [], rows=2, spouse=((1, 2),) * 3)
        self.descent(-1, (gone("al", 0),), [], rows=0, spouse=((1, 2),))

    def test_spouses_play_no_part(self):
        self.descent(-1, (gone("al", 0), gone("al", 1), gone("al", 2), gone("al", 3)), [("wed", "al", "ed")])
        self.descent(1, (gone("al", 0), taken("mo", 0), (("al", 1), "divides", (("mo", 0),), ())),
                     [("wed", "al", "ed")] + born("mo: al"))

    def test_the_row_one(self):
        self.descent(1, (gone("bo"), (("al", 0), "gone", (), (("bo", -1),)), (("al", -1), "gone", (), (("bo", -1),)),
                         taken("sis"), (("mo", 0), "divides", (("sis", -1),), (("al", -1),)),
                         (("al", 1), "divides", (("mo", 0),), ())), born("al: bo, mo: al sis") + died("bo mo"))

    def test_the_row_one_by_heads(self):
        facts = born("al: bo, mo: al sis, sis: tim") + died("bo mo sis")
        self.descent(1, (gone("bo"), (("al", 0), "gone", (), (("bo", -1),)), taken("tim"),
                         (("mo", 0), "divides", (("tim", -1),), (("bo", -1),)),
                         (("al", 1), "divides", (("mo", 0),), ())), facts, mode="heads")

    def test_what_lower_rows_have_shown_is_not_shown_again(self):
        facts = born("fa: al, mo: al, gran: fa mo, opa: mo, opa: unc") + died("fa mo gran opa unc")
        self.descent(-1, (
            gone("al", 0), gone("al"), (("fa", 0), "gone", (), (("al", -1),)), (("mo", 0), "gone", (), (("al", -1),)),
            (("al", 1), "gone", (), (("fa", 0), ("mo", 0))),
            (("fa", -1), "gone", (), (("al", -1),)), (("mo", -1), "gone", (), (("al", -1),)),
            (("gran", 0), "gone", (), (("fa", -1), ("mo", -1))), (("fa", 1), "gone", (), (("gran", 0),)),
            gone("unc"), (("opa", 0), "gone", (), (("mo", -1), ("unc", -1))),
            (("mo", 1), "gone", (), (("gran", 0), ("opa", 0))), (("al", 2), "gone", (), (("fa", 1), ("mo", 1))),
            gone("gran", 1), (("fa", 2), "gone", (), (("gran", 1),)), gone("opa", 1),
            (("mo", 2), "gone", (), (("gran", 1), ("opa", 1))), (("al", 3), "gone", (), (("fa", 2), ("mo", 2)))), facts)

    def test_rows_behind_the_row_are_not_shown(self):
        facts = born("mo: al, gran: mo, urgran: gran") + died("mo")
        self.descent(2, (gone("al", 0), gone("al"), (("mo", 0), "gone", (), (("al", -1),)),
                         (("al", 1), "gone", (), (("mo", 0),)), taken("gran", 0),
                         (("mo", 1), "divides", (("gran", 0),), ()), (("al", 2), "divides", (("mo", 1),), ())), facts)
        paper = make_paper(case_of(facts + died("gran")))
        self.assertEqual((paper[-1][1], paper[-1][2][-1]), (3, (("al", 3), "divides", (("mo", 2),), ())))

    def test_the_rows_of_the_rules(self):
        facts = born("mo: al, gran: mo, urgran: gran") + died("mo gran")
        for rows, wanted in [(0, -1), (1, -1), (2, -1), (3, 3)]:
            for mode in ("stocks", "heads"):
                paper = make_paper(case_of(facts, rows=rows, spouse=((1, 2),) * (rows + 1), mode=mode))
                self.assertEqual(paper[-1][:2], ("descent", wanted))
                self.assertEqual([row[0] for row in paper[-1][2] if row[0][0] == "al" and row[0][1] >= 0],
                                 [("al", row) for row in range(rows + 1)])


class Gifts(Checks):
    def test_a_taker_who_survives(self):
        self.line("person", (), [], ("zoe",))
        self.line("person", (), born("al: bo"), ("bo",))
        self.line("person", (), born("al: bo, bo: cy") + died("bo"), ("bo", "zoe"))
        self.line("person", (), born("al: bo, bo: cy") + died("bo"), ("al", "bo", "al", "bo", "zoe"))

    def test_the_node_of_the_first_taker(self):
        rows = (taken("cy"), (("bo", 0), "divides", (("cy", -1),), ()))
        self.line("stock", rows, born("al: bo, bo: cy") + died("bo"), ("bo",))
        self.line("stock", rows, born("mo: al bo, bo: cy") + died("bo"), ("bo", "al"))
        self.line("stock", rows, born("al: bo x, bo: cy, x: y") + died("bo x"), ("bo", "x"))

    def test_the_node_of_the_first_taker_by_heads(self):
        facts = born("al: bo, bo: cy di, cy: ed, di: fay") + died("bo cy di")
        self.line("stock", (taken("ed"), taken("fay"), (("bo", 0), "divides", (("ed", -1), ("fay", -1)), ())),
                  facts, ("bo",), mode="heads")
        self.line("stock", (taken("ed"), (("cy", -1), "divides", (("ed", -1),), ()),
                            taken("fay"), (("di", -1), "divides", (("fay", -1),), ()),
                            (("bo", 0), "divides", (("cy", -1), ("di", -1)), ())), facts, ("bo",))

    def test_the_node_of_the_first_taker_is_gone(self):
        for mode in ("stocks", "heads"):
            self.line("lapse", (gone("bo", 0),), born("al: bo") + died("bo"), ("bo",), mode=mode)
            self.line("lapse", (gone("cy"), (("bo", 0), "gone", (), (("cy", -1),))),
                      born("al: bo, bo: cy") + died("bo cy"), ("bo",), mode=mode)

    def test_the_dead_person_as_first_taker(self):
        self.line("lapse", (), born("al: bo"), ("al",))
        self.line("stock", (taken("bo"), (("al", 0), "divides", (("bo", -1),), ())), born("al: bo, mo: al"), ("al",))
        self.line("lapse", (gone("al", 0),), born("mo: al"), ("al",))

    def test_the_rules_do_not_ask_for_it(self):
        self.line("lapse", (), born("al: bo, bo: cy") + died("bo"), ("bo",), steps_in=False)
        self.line("lapse", (), born("al: bo") + died("bo"), ("bo",), steps_in=False)
        self.line("person", (), born("al: bo, bo: cy") + died("bo"), ("bo", "cy"), steps_in=False)

    def test_a_first_taker_who_is_not_near(self):
        self.line("lapse", (), born("zoe: cy") + died("zoe"), ("zoe",))
        self.line("lapse", (), born("mo: al sis") + died("mo"), ("mo",))
        self.line("lapse", (), born("al: bo, bo: cy") + died("bo zoe"), ("zoe", "bo"))

    def test_each_gift_that_stands_has_a_line(self):
        facts = born("al: bo, bo: cy") + died("bo")
        will = [("sum", 9, 5, ("bo",)), ("sum", 1, 5, ("zoe",)), ("rest", 2, 1, ("zoe",)),
                ("thing", 5, "ring", ("al",)), ("revoke", 1), ("sum", 3, 5, ("al", "bo")),
                ("thing", 2, "ring", ("cy",))]
        rows = (taken("cy"), (("bo", 0), "divides", (("cy", -1),), ()))
        descent = ("descent", 0, (taken("cy"), (("bo", -1), "divides", (("cy", -1),), ()),
                                  (("al", 0), "divides", (("bo", -1),), ())))
        self.paper((("gift", 9, "stock", rows), ("gift", 5, "lapse", ()), ("gift", 3, "lapse", ()),
                    ("gift", 2, "person", ()), descent), facts, will)

    def test_gifts_of_one_number(self):
        paper = make_paper(case_of([], [("sum", 1, 5, ("bo",)), ("sum", 1, 5, ("cy",)), ("sum", 2, 5, ("al",))]))
        self.assertEqual(paper[:-1], (("gift", 1, "person", ()), ("gift", 2, "lapse", ())))


class Whole(unittest.TestCase):
    def test_many_cases(self):
        dice = random.Random(71)
        seen = []
        for _ in range(500):
            args = random_case(dice)
            case = made(*args)
            paper = make_paper(case)
            self.assertEqual(paper, PlainCase(*args).paper(), args)
            self.assertIs(accepts(case, paper), True)
            seen += [(line[2], bool(line[3])) for line in paper[:-1]] + [paper[-1][1]]
        for what in (("person", False), ("lapse", False), ("lapse", True), ("stock", True), -1, 0, 1, 2):
            self.assertIn(what, seen)

    def test_the_kinds_of_values(self):
        paper = make_paper(case_of(born("al: bo, bo: cy") + died("bo"), [("sum", 1, 5, ("bo",))]))
        self.assertEqual(repr(paper), "(('gift', 1, 'stock', ((('cy', -1), 'takes', (), ()), "
                         "(('bo', 0), 'divides', (('cy', -1),), ()))), ('descent', 0, ((('cy', -1), 'takes', (), ()), "
                         "(('bo', -1), 'divides', (('cy', -1),), ()), (('al', 0), 'divides', (('bo', -1),), ()))))")

    def test_a_paper_leaves_its_case_as_it_was(self):
        case = case_of(born("al: bo, bo: cy") + died("bo"), [("sum", 1, 5, ("bo",)), ("rest", 2, 5, ("bo",))])
        gifts = copy.deepcopy(case.gifts)
        first = make_paper(case)
        self.assertEqual((case.gifts, make_paper(case)), (gifts, first))
        self.assertEqual(case.family.children("al"), ["bo"])

    def test_they_are_defined_in_this_file(self):
        for name in ("make_paper", "levels"):
            self.assertEqual(getattr(papers, name).__module__, "parcener.papers")

    def test_the_names_of_the_arguments(self):
        self.assertEqual(levels(advances={"bo": 0}, amount=(1, 1)), {"bo": (1, 1)})
        self.assertEqual(len(make_paper(case=case_of([]))), 1)


if __name__ == "__main__":
    unittest.main()
