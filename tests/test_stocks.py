"""Points 4.1 to 4.4, and parcener/stocks.py of the interface."""

import copy
import random
import unittest
from fractions import Fraction

from helper import Plain, born, died, ladder, random_facts, whole
from parcener import stocks
from parcener.family import Family
from parcener.rules import Rules
from parcener.stocks import parts_of, rows_of, shares_of

STOCKS, HEADS = Rules(), Rules(mode="heads")
BOTH = (STOCKS, HEADS)


class Checks(unittest.TestCase):
    def parts(self, facts, node, wanted, books=BOTH):
        """The parts of a node; al has died on the day 1."""
        told = Family(facts + [("died", "al", 1)])
        for book in books:
            self.assertEqual(parts_of(told, book, "al", node), wanted, (book.mode, node))

    def rows(self, facts, node, wanted, books=BOTH):
        """The rows of a node; al has died on the day 1."""
        told = Family(facts + [("died", "al", 1)])
        for book in books:
            self.assertEqual(rows_of(told, book, "al", node), wanted, (book.mode, node))

    def shares(self, facts, node, wanted, books=BOTH):
        """The shares of a node; al has died on the day 1."""
        told = Family(facts + [("died", "al", 1)])
        for book in books:
            found = shares_of(rows_of(told, book, "al", node), node)
            self.assertEqual(found, wanted, (book.mode, node))
            self.assertEqual(sum(whole(found).values()), 1)


class PartsAboveAndBelow(Checks):
    def test_a_row_of_ancestors(self):
        facts = born("mo: al, fa: al bo")
        for row in (1, 2, 3):
            self.parts(facts, ("al", row), [("fa", row - 1), ("mo", row - 1)])
            self.parts(facts, ("bo", row), [("fa", row - 1)])
            self.parts(facts, ("fa", row), [])
            self.parts(facts, ("zoe", row), [])

    def test_a_row_of_ancestors_of_somebody_who_survives_or_not(self):
        for more in ([], died("bo fa"), [("renounced", "bo"), ("renounced", "mo")]):
            self.parts(born("mo: bo, fa: bo") + more, ("bo", 2), [("fa", 1), ("mo", 1)])

    def test_a_row_beyond_the_rows_of_the_rules(self):
        facts = born("gran: mo, mo: al")
        self.parts(facts, ("al", 7), [("mo", 6)])
        few = [Rules(rows=0, spouse=((1, 2),), mode=mode) for mode in ("stocks", "heads")]
        self.parts(facts, ("al", 2), [("mo", 1)], few)

    def test_the_row_zero(self):
        facts = born("al: cy bo di, bo: ed")
        self.parts(facts, ("al", 0), [("bo", -1), ("cy", -1), ("di", -1)])
        self.parts(facts + died("bo"), ("bo", 0), [("ed", -1)])
        self.parts(facts, ("zoe", 0), [])

    def test_the_row_below(self):
        facts = born("al: cy bo di, bo: ed, cy: gus fay") + died("bo cy ed gus fay")
        self.parts(facts, ("al", -1), [("bo", -1), ("cy", -1), ("di", -1)])
        self.parts(facts, ("bo", -1), [("ed", -1)])
        self.parts(facts, ("cy", -1), [("fay", -1), ("gus", -1)])
        self.parts(facts, ("ed", -1), [])
        self.parts(facts, ("zoe", -1), [])

    def test_the_children_include_those_who_do_not_survive(self):
        facts = born("al: bo cy di") + died("bo") + [("renounced", "di")]
        for row in (0, -1):
            self.parts(facts, ("al", row), [("bo", -1), ("cy", -1), ("di", -1)])

    def test_the_dead_person_among_the_children(self):
        self.parts(born("mo: al bo") + died("mo"), ("mo", 0), [("al", -1), ("bo", -1)])
        self.parts(born("mo: al bo") + died("mo"), ("mo", -1), [("al", -1), ("bo", -1)])

    def test_ascending_as_strings(self):
        names = ["b", "10", "2", "ab", "a", "a0", "z9", "0"]
        wanted = ["0", "10", "2", "a", "a0", "ab", "b", "z9"]
        facts = [("child", name, "al") for name in names]
        for row in (0, -1):
            self.parts(facts, ("al", row), [(name, -1) for name in wanted])
        self.parts([("child", "al", "b"), ("child", "al", "ab")], ("al", 1), [("ab", 0), ("b", 0)])


class PartsByHeads(Checks):
    def heads(self, facts, node, wanted):
        """The names of the parts in the mode heads; none of them plays a part in the mode stocks."""
        self.parts(facts, node, [(name, -1) for name in wanted], [HEADS])
        told = Family(facts + [("died", "al", 1)])
        self.parts(facts, node, [(name, -1) for name in told.children(node[0])], [STOCKS])

    def test_somebody_survives_among_the_children(self):
        self.heads(born("al: bo cy, cy: di ed") + died("cy"), ("al", 0), ["bo", "cy"])

    def test_nobody_survives_among_the_children(self):
        self.heads(born("al: bo cy, cy: di ed, bo: fay") + died("bo cy"), ("al", 0), ["di", "ed", "fay"])

    def test_those_who_do_not_survive_belong_to_their_generation(self):
        facts = born("al: bo cy, cy: di ed, bo: fay, ed: gus") + died("bo cy ed") + [("renounced", "fay")]
        self.heads(facts, ("al", 0), ["di", "ed", "fay"])

    def test_a_child_without_children_of_its_own(self):
        self.heads(born("al: bo cy, cy: di") + died("bo cy"), ("al", 0), ["di"])

    def test_several_generations_in_which_nobody_survives(self):
        facts = born("al: b1 b2, b1: c2 c1, b2: c3, c3: d1 d2, c1: d3, d2: e9 e1, d3: e5, e5: f1")
        gone = "b1 b2 c1 c2 c3"
        self.heads(facts + died(gone), ("al", 0), ["d1", "d2", "d3"])
        self.heads(facts + died(gone + " d1 d2 d3"), ("al", 0), ["e1", "e5", "e9"])
        self.heads(facts + died(gone + " d1 d2 d3 e1 e5 e9"), ("al", 0), ["f1"])
        self.heads(facts + died(gone + " d1 d2 d3 e1 e5 e9 f1"), ("al", 0), ["b1", "b2"])

    def test_nobody_survives_at_all(self):
        self.heads(born("al: cy bo, cy: di, di: ed") + died("bo cy di ed"), ("al", 0), ["bo", "cy"])
        self.heads([], ("al", 0), [])
        self.heads([("renounced", "bo")] + born("al: bo"), ("al", 0), ["bo"])

    def test_whoever_renounces_does_not_hold_the_generation(self):
        facts = born("al: bo, bo: cy di, di: ed") + [("renounced", "bo"), ("renounced", "cy"), ("renounced", "di")]
        self.heads(facts, ("al", 0), ["ed"])

    def test_the_days_of_the_rules_count(self):
        facts = born("al: bo, bo: cy") + died("al", 1) + died("bo", 4)
        for days, name in [(2, "bo"), (3, "cy"), (4, "cy")]:
            self.assertEqual(parts_of(Family(facts), Rules(mode="heads", days=days), "al", ("al", 0)), [(name, -1)])

    def test_persons_that_are_reached_over_two_ways(self):
        self.heads(born("al: bo cy, bo: di, cy: di ed") + died("bo cy"), ("al", 0), ["di", "ed"])
        self.heads(born("al: bo cy, bo: di ed, cy: di ed, di: fay, ed: fay") + died("bo cy di ed"), ("al", 0), ["fay"])

    def test_a_child_that_is_a_grandchild_too(self):
        self.heads(born("al: bo cy, bo: cy di") + died("bo"), ("al", 0), ["bo", "cy"])
        self.heads(born("al: bo cy, bo: cy, cy: di ed") + died("bo cy"), ("al", 0), ["cy", "di", "ed"])

    def test_other_nodes_of_the_row_zero(self):
        facts = born("mo: al bo, bo: cy di, al: ed, ed: fay") + died("mo bo ed")
        self.heads(facts, ("mo", 0), ["cy", "di", "ed"])
        self.heads(facts, ("bo", 0), ["cy", "di"])
        self.heads(facts, ("ed", 0), ["fay"])

    def test_the_rows_beside_zero_are_not_divided_by_heads(self):
        facts = born("al: bo cy, cy: di ed, bo: fay") + died("bo cy")
        self.heads(facts, ("al", -1), ["bo", "cy"])
        self.parts(born("gran: mo, mo: al") + died("gran mo"), ("al", 1), [("mo", 0)])

    def test_a_long_line(self):
        facts = [("child", f"p{at + 1}", f"p{at}") for at in range(58)] + died(" ".join(f"p{at}" for at in range(58)))
        self.assertEqual(parts_of(Family(facts), HEADS, "p0", ("p0", 0)), [("p58", -1)])
        self.assertEqual(parts_of(Family(facts), STOCKS, "p0", ("p0", 0)), [("p1", -1)])


class Kinds(Checks):
    def test_a_node_that_takes(self):
        for row in (0, -1):
            self.rows(born("bo: cy"), ("bo", row), ((("bo", row), "takes", (), ()),))
            self.rows([], ("zoe", row), ((("zoe", row), "takes", (), ()),))

    def test_a_node_that_is_gone(self):
        for row in (0, -1):
            self.rows([], ("al", row), ((("al", row), "gone", (), ()),))
            self.rows(died("bo"), ("bo", row), ((("bo", row), "gone", (), ()),))
            self.rows([("renounced", "bo")], ("bo", row), ((("bo", row), "gone", (), ()),))

    def test_a_node_that_divides(self):
        for row in (0, -1):
            self.rows(born("al: bo"), ("al", row), ((("bo", -1), "takes", (), ()),
                                                    (("al", row), "divides", (("bo", -1),), ())))

    def test_those_who_renounce_or_die_too_early_make_way(self):
        for fact in [("renounced", "bo"), ("died", "bo", 0), ("died", "bo", 1)]:
            self.rows(born("al: bo, bo: cy") + [fact], ("al", 0), (
                (("cy", -1), "takes", (), ()), (("bo", -1), "divides", (("cy", -1),), ()),
                (("al", 0), "divides", (("bo", -1),), ())), [STOCKS])
        self.rows(born("al: bo, bo: cy") + [("died", "bo", 2)], ("al", 0), (
            (("bo", -1), "takes", (), ()), (("al", 0), "divides", (("bo", -1),), ())))

    def test_all_parts_are_gone(self):
        self.rows(born("al: cy bo") + died("bo cy"), ("al", 0), (
            (("bo", -1), "gone", (), ()), (("cy", -1), "gone", (), ()),
            (("al", 0), "gone", (), (("bo", -1), ("cy", -1)))))

    def test_live_and_gone_parts_are_ascending(self):
        facts = born("al: fay ed di cy bo gus") + died("bo di fay")
        self.rows(facts, ("al", 0), (
            (("bo", -1), "gone", (), ()), (("cy", -1), "takes", (), ()), (("di", -1), "gone", (), ()),
            (("ed", -1), "takes", (), ()), (("fay", -1), "gone", (), ()), (("gus", -1), "takes", (), ()),
            (("al", 0), "divides", (("cy", -1), ("ed", -1), ("gus", -1)), (("bo", -1), ("di", -1), ("fay", -1)))))

    def test_a_row_above_zero_does_not_take(self):
        self.rows([], ("bo", 1), ((("bo", 1), "gone", (), ()),))
        self.rows(born("mo: bo"), ("bo", 1), ((("mo", 0), "takes", (), ()),
                                              (("bo", 1), "divides", (("mo", 0),), ())))
        self.rows(born("mo: bo") + died("mo"), ("bo", 1), (
            (("bo", -1), "takes", (), ()), (("mo", 0), "divides", (("bo", -1),), ()),
            (("bo", 1), "divides", (("mo", 0),), ())))
        self.rows(born("mo: bo") + [("died", "bo", 1), ("died", "mo", 1)], ("bo", 1), (
            (("bo", -1), "gone", (), ()), (("mo", 0), "gone", (), (("bo", -1),)),
            (("bo", 1), "gone", (), (("mo", 0),))))

    def test_rows_of_ancestors(self):
        self.rows(born("mo: al bo, gran: mo, fa: al") + died("mo fa"), ("al", 2), (
            (("fa", 1), "gone", (), ()), (("gran", 0), "takes", (), ()), (("mo", 1), "divides", (("gran", 0),), ()),
            (("al", 2), "divides", (("mo", 1),), (("fa", 1),))))


class Order(Checks):
    def test_each_node_stands_behind_its_parts(self):
        facts = born("al: cy bo, bo: fay ed, cy: di") + died("bo cy ed")
        self.rows(facts, ("al", 0), (
            (("ed", -1), "gone", (), ()), (("fay", -1), "takes", (), ()),
            (("bo", -1), "divides", (("fay", -1),), (("ed", -1),)),
            (("di", -1), "takes", (), ()), (("cy", -1), "divides", (("di", -1),), ()),
            (("al", 0), "divides", (("bo", -1), ("cy", -1)), ())), [STOCKS])

    def test_each_node_once(self):
        facts = born("al: bo cy, bo: ed, cy: di ed") + died("bo cy")
        self.rows(facts, ("al", 0), (
            (("ed", -1), "takes", (), ()), (("bo", -1), "divides", (("ed", -1),), ()),
            (("di", -1), "takes", (), ()), (("cy", -1), "divides", (("di", -1), ("ed", -1)), ()),
            (("al", 0), "divides", (("bo", -1), ("cy", -1)), ())), [STOCKS])

    def test_a_part_that_an_earlier_part_needs(self):
        self.rows(born("al: bo cy, bo: cy di") + died("bo"), ("al", 0), (
            (("cy", -1), "takes", (), ()), (("di", -1), "takes", (), ()),
            (("bo", -1), "divides", (("cy", -1), ("di", -1)), ()),
            (("al", 0), "divides", (("bo", -1), ("cy", -1)), ())))

    def test_a_part_of_a_later_part_that_is_a_part_itself(self):
        self.rows(born("al: bo cy, cy: bo di, bo: ed") + died("bo cy"), ("al", 0), (
            (("ed", -1), "takes", (), ()), (("bo", -1), "divides", (("ed", -1),), ()),
            (("di", -1), "takes", (), ()), (("cy", -1), "divides", (("bo", -1), ("di", -1)), ()),
            (("al", 0), "divides", (("bo", -1), ("cy", -1)), ())), [STOCKS])

    def test_nobody_below_a_node_that_takes(self):
        self.rows(born("al: bo, bo: cy di, cy: ed"), ("al", 0), (
            (("bo", -1), "takes", (), ()), (("al", 0), "divides", (("bo", -1),), ())))

    def test_one_person_in_several_rows(self):
        facts = born("gran: fa mo, fa: al, mo: al bo") + died("gran fa mo")
        taken = (("bo", -1), "takes", (), ())
        fa, mo = (("fa", -1), "gone", (), (("al", -1),)), (("mo", -1), "divides", (("bo", -1),), (("al", -1),))
        self.rows(facts, ("al", 2), (
            (("al", -1), "gone", (), ()), fa, taken, mo, (("gran", 0), "divides", (("mo", -1),), (("fa", -1),)),
            (("fa", 1), "divides", (("gran", 0),), ()), (("mo", 1), "divides", (("gran", 0),), ()),
            (("al", 2), "divides", (("fa", 1), ("mo", 1)), ())), [STOCKS])
        self.rows(facts, ("al", 2), (
            (("al", -1), "gone", (), ()), taken, (("gran", 0), "divides", (("bo", -1),), (("al", -1),)),
            (("fa", 1), "divides", (("gran", 0),), ()), (("mo", 1), "divides", (("gran", 0),), ()),
            (("al", 2), "divides", (("fa", 1), ("mo", 1)), ())), [HEADS])

    def test_heads_do_not_need_the_generations_between(self):
        facts = born("al: bo cy, bo: di ed, cy: fay") + died("bo cy ed")
        self.rows(facts, ("al", 0), (
            (("di", -1), "takes", (), ()), (("ed", -1), "gone", (), ()), (("fay", -1), "takes", (), ()),
            (("al", 0), "divides", (("di", -1), ("fay", -1)), (("ed", -1),))), [HEADS])

    def test_below_heads_stocks_divide(self):
        facts = born("al: bo cy, cy: di, di: ed fay") + died("cy di")
        self.rows(facts, ("al", 0), (
            (("bo", -1), "takes", (), ()), (("ed", -1), "takes", (), ()), (("fay", -1), "takes", (), ()),
            (("di", -1), "divides", (("ed", -1), ("fay", -1)), ()), (("cy", -1), "divides", (("di", -1),), ()),
            (("al", 0), "divides", (("bo", -1), ("cy", -1)), ())))

    def test_tuples_throughout(self):
        told = Family(born("al: bo cy") + died("al cy"))
        rows = rows_of(told, STOCKS, "al", ("al", 0))
        self.assertIs(type(rows), tuple)
        for row in rows:
            self.assertEqual([type(part) for part in row], [tuple, str, tuple, tuple])
            for node in (row[0],) + row[2] + row[3]:
                self.assertEqual((type(node), [type(part) for part in node]), (tuple, [str, int]))
        self.assertIs(type(parts_of(told, STOCKS, "al", ("al", 0))), list)


class Shares(Checks):
    def test_a_node_that_takes(self):
        for row in (0, -1):
            self.shares(born("bo: cy"), ("bo", row), {"bo": (1, 1)})

    def test_equal_parts(self):
        self.shares(born("al: bo cy di"), ("al", 0), {"bo": (1, 3), "cy": (1, 3), "di": (1, 3)})

    def test_gone_parts_take_nothing(self):
        self.shares(born("al: bo cy di") + died("cy"), ("al", 0), {"bo": (1, 2), "di": (1, 2)})
        self.shares(born("al: bo cy di") + died("cy di"), ("al", 0), {"bo": (1, 1)})

    def test_nested_divisions(self):
        facts = born("al: bo cy di, cy: ed fay, di: gus hal, hal: ian jo kay") + died("cy di hal jo")
        self.shares(facts, ("al", 0), {"bo": (1, 3), "ed": (1, 6), "fay": (1, 6), "gus": (1, 6), "ian": (1, 12),
                                       "kay": (1, 12)})

    def test_stocks_and_heads(self):
        facts = born("al: bo cy, bo: di, cy: ed fay") + died("bo cy")
        self.shares(facts, ("al", 0), {"di": (1, 2), "ed": (1, 4), "fay": (1, 4)}, [STOCKS])
        self.shares(facts, ("al", 0), {"di": (1, 3), "ed": (1, 3), "fay": (1, 3)}, [HEADS])

    def test_somebody_who_takes_by_two_parts(self):
        facts = born("al: bo cy, bo: di, cy: di ed") + died("bo cy")
        self.shares(facts, ("al", 0), {"di": (3, 4), "ed": (1, 4)}, [STOCKS])
        self.shares(facts, ("al", 0), {"di": (1, 2), "ed": (1, 2)}, [HEADS])

    def test_a_child_that_is_a_grandchild_too(self):
        self.shares(born("al: bo cy, bo: cy di") + died("bo"), ("al", 0), {"cy": (3, 4), "di": (1, 4)})

    def test_two_parts_divide_by_the_same_part(self):
        facts = born("al: bo cy, bo: di, cy: di, di: ed fay") + died("bo cy di")
        self.shares(facts, ("al", 0), {"ed": (1, 2), "fay": (1, 2)})
        facts = born("al: bo cy dan, bo: di gus, cy: di, di: ed fay") + died("bo cy di")
        self.shares(facts, ("al", 0), {"dan": (1, 3), "ed": (1, 4), "fay": (1, 4), "gus": (1, 6)})

    def test_rows_of_ancestors(self):
        facts = born("mo: al bo, fa: al bo cy") + died("mo fa")
        self.shares(facts, ("al", 1), {"bo": (3, 4), "cy": (1, 4)})
        self.shares(born("mo: al bo, fa: al") + died("mo"), ("al", 1), {"fa": (1, 2), "bo": (1, 2)})
        self.shares(born("mo: al, gran: mo, opa: mo"), ("al", 2), {"gran": (1, 2), "opa": (1, 2)})

    def test_an_ancestor_over_two_ways(self):
        facts = born("mo: al, fa: al, gran: mo fa, opa: mo")
        self.shares(facts, ("al", 2), {"gran": (3, 4), "opa": (1, 4)})

    def test_shares_of_a_node_within_the_rows(self):
        told = Family(born("al: bo cy, cy: di ed") + died("al cy"))
        rows = rows_of(told, STOCKS, "al", ("al", 0))
        self.assertEqual(shares_of(rows, ("cy", -1)), {"di": (1, 2), "ed": (1, 2)})
        self.assertEqual(shares_of(rows, ("ed", -1)), {"ed": (1, 1)})
        self.assertEqual(shares_of(rows, ("bo", -1)), {"bo": (1, 1)})
        self.assertEqual(shares_of(rows, ("al", 0)), {"bo": (1, 2), "di": (1, 4), "ed": (1, 4)})

    def test_rows_in_another_order_and_further_rows(self):
        rows = ((("zoe", -1), "takes", (), ()), (("ed", -1), "takes", (), ()), (("di", -1), "takes", (), ()),
                (("gus", -1), "gone", (), ()), (("cy", -1), "divides", (("ed", -1), ("di", -1)), ()),
                (("bo", -1), "takes", (), ()),
                (("al", 0), "divides", (("cy", -1), ("bo", -1)), (("gus", -1),)),
                (("mo", 0), "divides", (("bo", -1), ("al", 0)), ()), (("ed", 0), "takes", (), ()))
        self.assertEqual(shares_of(rows, ("al", 0)), {"bo": (1, 2), "di": (1, 4), "ed": (1, 4)})
        self.assertEqual(shares_of(rows, ("cy", -1)), {"di": (1, 2), "ed": (1, 2)})
        self.assertEqual(shares_of(rows, ("mo", 0)), {"bo": (3, 4), "di": (1, 8), "ed": (1, 8)})
        self.assertEqual(shares_of(rows, ("ed", 0)), {"ed": (1, 1)})


class Large(Checks):
    def test_many_ways_down(self):
        facts = ladder(17, up=False) + [("died", f"{one}{at}", 1) for one in "ab" for at in range(17)]
        for book in BOTH:
            rows = rows_of(Family(facts), book, "a0", ("a0", 0))
            self.assertEqual(len(rows), 35 if book is STOCKS else 3)
            self.assertEqual(shares_of(rows, ("a0", 0)), {"a17": (1, 2), "b17": (1, 2)})

    def test_many_ways_up(self):
        facts = ladder(29, up=True) + [("died", "a0", 1)]
        for book in BOTH:
            rows = rows_of(Family(facts), book, "a0", ("a0", 29))
            self.assertEqual(len(rows), 59)
            self.assertEqual(shares_of(rows, ("a0", 29)), {"a29": (1, 2), "b29": (1, 2)})

    def test_a_long_line_down(self):
        facts = [("child", f"p{at + 1}", f"p{at}") for at in range(59)] + died(" ".join(f"p{at}" for at in range(59)))
        rows = rows_of(Family(facts), STOCKS, "p0", ("p0", 0))
        self.assertEqual([row[0] for row in rows], [(f"p{at}", -1) for at in range(59, 0, -1)] + [("p0", 0)])
        self.assertEqual(shares_of(rows, ("p0", 0)), {"p59": (1, 1)})

    def test_a_long_line_up(self):
        facts = [("child", f"p{at}", f"p{at + 1}") for at in range(119)] + [("died", "p0", 1)]
        for book in BOTH:
            rows = rows_of(Family(facts), book, "p0", ("p0", 119))
            self.assertEqual([row[0] for row in rows], [(f"p{at}", 119 - at) for at in range(119, -1, -1)])
            self.assertEqual(shares_of(rows, ("p0", 119)), {"p119": (1, 1)})

    def test_many_parts(self):
        facts = [("child", f"c{at}", "al") for at in range(119)]
        self.shares(facts, ("al", 0), {f"c{at}": (1, 119) for at in range(119)})


class AgainstThePlainWords(unittest.TestCase):
    def check(self, facts, book, dead):
        """All nodes of all persons; returns how many of each kind there are."""
        told, plain = Family(facts), Plain(facts, book, dead)
        kinds = []
        for name in sorted({name for fact in facts for name in fact[1:] if isinstance(name, str)} | {"zoe"}):
            for row in (-1, 0, 1, 2, 3):
                node = (name, row)
                rows = rows_of(told, book, dead, node)
                self.assertEqual(rows, plain.rows(node), (facts, book.mode, dead, node))
                kinds.append(rows[-1][1])
                if kinds[-1] != "takes":
                    self.assertEqual(parts_of(told, book, dead, node), plain.parts(node))
                if kinds[-1] != "gone":
                    found = shares_of(rows, node)
                    self.assertEqual(whole(found), plain.shares(node))
                    self.assertEqual(sum(whole(found).values()), 1)
                    self.assertTrue(all(share == (Fraction(*share).numerator, Fraction(*share).denominator)
                                        for share in found.values()))
        return kinds

    def test_many_families(self):
        dice = random.Random(4)
        seen = []
        for _ in range(400):
            facts, dead = random_facts(dice)
            for mode in ("stocks", "heads"):
                seen += self.check(facts, Rules(mode=mode, days=dice.choice([0, 0, 1, 2])), dead)
        for kind in ("takes", "divides", "gone"):
            self.assertGreater(seen.count(kind), 1000)

    def test_the_order_of_the_facts_plays_no_part(self):
        dice = random.Random(5)
        for _ in range(100):
            facts, dead = random_facts(dice)
            turned = dice.sample(facts, len(facts))
            for book in BOTH:
                for row in (0, 1, 2):
                    self.assertEqual(rows_of(Family(facts), book, dead, (dead, row)),
                                     rows_of(Family(turned), book, dead, (dead, row)))


class Keeping(unittest.TestCase):
    facts = born("al: bo cy, bo: di, cy: di ed") + died("al bo cy")

    def test_the_arguments_are_not_modified(self):
        for book in BOTH:
            told = Family(self.facts)
            before = copy.deepcopy((vars(told), vars(book)))
            rows = rows_of(told, book, "al", ("al", 0))
            copied = copy.deepcopy(rows)
            shares_of(rows, ("al", 0))
            parts_of(told, book, "al", ("al", 0))
            self.assertEqual((vars(told), vars(book)), before)
            self.assertEqual(rows, copied)

    def test_changes_of_an_answer_play_no_part(self):
        for book in BOTH:
            told = Family(self.facts)
            rows = rows_of(told, book, "al", ("al", 0))
            parts, shares = parts_of(told, book, "al", ("al", 0)), shares_of(rows, ("al", 0))
            before = copy.deepcopy((rows, parts, shares))
            parts.clear()
            shares.clear()
            self.assertEqual((rows_of(told, book, "al", ("al", 0)), parts_of(told, book, "al", ("al", 0)),
                              shares_of(rows, ("al", 0))), before)

    def test_the_names_of_the_arguments(self):
        told, node = Family(self.facts), ("cy", -1)
        self.assertEqual(parts_of(family=told, rules=STOCKS, dead="al", node=node), [("di", -1), ("ed", -1)])
        rows = rows_of(node=node, dead="al", rules=STOCKS, family=told)
        self.assertEqual(rows[-1], (node, "divides", (("di", -1), ("ed", -1)), ()))
        self.assertEqual(shares_of(node=node, rows=rows), {"di": (1, 2), "ed": (1, 2)})

    def test_they_are_defined_in_this_file(self):
        for name in ("parts_of", "rows_of", "shares_of"):
            self.assertEqual(getattr(stocks, name).__module__, "parcener.stocks")


if __name__ == "__main__":
    unittest.main()
