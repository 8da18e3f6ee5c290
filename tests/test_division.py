"""Points 6.1 to 6.8, and parcener/division.py of the interface but its ledgers."""

import copy
import unittest

from helper import born, died, estate_of, shown
from parcener import division
from parcener.cases import Case
from parcener.division import accepts, divide
from parcener.estates import Estate
from parcener.judge import Division
from parcener.papers import make_paper
from parcener.rules import Rules

AL_DIED = ("died", "al", 1)
TO_ZED = ("rest", 99, 1, ("zed",))
WED = [("wed", "al", "ed")]


def case_of(facts, goods, will, book):
    """A case of al, who has died on the day 1."""
    return Case("al", facts + [AL_DIED], rules=Rules(**book), estate=estate_of({"coins": 100, **goods}), will=will)


class Checks(unittest.TestCase):
    def division(self, facts, goods, will=(), **book):
        """The lists of the division of al's estate, whichever way the facts are told."""
        found = shown(divide(case_of(facts, goods, will, book)))
        self.assertEqual(found, shown(divide(case_of(facts[::-1], goods, will, book))))
        return found

    def coins(self, wanted, facts, goods=None, will=(), **book):
        """The coins of the takers are these, as pairs or as a text."""
        if isinstance(wanted, str):
            words = wanted.split()
            wanted = list(zip(words[::2], map(int, words[1::2])))
        self.assertEqual(self.division(facts, goods or {}, will, **book)[2], wanted)

    def things(self, wanted, coins, facts, goods, will, **book):
        """The things and their takers are these, and the coins of the takers."""
        self.coins(coins, facts, goods, will, **book)
        self.assertEqual(self.division(facts, goods, will, **book)[1], wanted)


class TakersOfGifts(Checks):
    def sixty(self, wanted, facts, takers, **book):
        """A sum of 60 coins is taken so, if 40 coins are left to zed, who has all 100 if the sum lapses."""
        self.coins(wanted, facts, None, [("sum", 1, 60, takers), TO_ZED], **book)

    def test_the_first_who_survives_takes_all(self):
        self.sixty("bo 60 zed 40", [], ("bo",))
        self.sixty("bo 60 zed 40", [], ("bo", "cy", "di"))
        self.sixty("cy 60 zed 40", [], ("cy", "bo", "di"))
        self.sixty("cy 60 zed 40", [("renounced", "bo")], ("bo", "cy", "di"))
        self.sixty("di 60 zed 40", [("renounced", "bo"), ("died", "cy", 1)], ("bo", "cy", "al", "di"))
        self.sixty("zed 100", [], ("zed",))

    def test_a_later_taker_comes_before_the_node_of_the_first(self):
        facts = born("al: bo, bo: cy di") + died("bo")
        self.sixty("cy 30 di 30 zed 40", facts, ("bo",))
        self.sixty("gus 60 zed 40", facts, ("bo", "gus"))
        self.sixty("di 60 zed 40", facts, ("bo", "bo", "di"))

    def test_a_taker_who_is_not_near_may_survive(self):
        self.sixty("ed 60 zed 40", WED, ("ed",), steps_in=False)
        self.sixty("mo 60 zed 40", born("mo: al"), ("mo",))

    def test_the_days_of_the_rules(self):
        facts = born("al: bo, bo: cy") + [("died", "bo", 4)]
        self.sixty("bo 60 zed 40", facts, ("bo",), days=2)
        self.sixty("cy 60 zed 40", facts, ("bo",), days=3)

    def test_descendants_step_in(self):
        self.sixty("cy 60 zed 40", born("al: bo, bo: cy") + died("bo"), ("bo",))
        self.sixty("di 60 zed 40", born("al: bo, bo: cy, cy: di") + died("bo cy"), ("cy",))
        self.sixty("di 60 zed 40", born("al: bo, bo: cy, cy: di") + died("bo cy"), ("bo",))

    def test_descendants_of_brothers_step_in(self):
        facts = born("mo: al sis, sis: tim, tim: ulf") + died("sis")
        self.sixty("tim 60 zed 40", facts, ("sis",))
        self.sixty("ulf 60 zed 40", facts + died("tim"), ("tim",))

    def test_the_shares_of_the_node_by_stocks_and_by_heads(self):
        facts = born("al: bo, bo: cy di, cy: ed fay, di: gus") + died("bo cy di")
        self.sixty("ed 15 fay 15 gus 30 zed 40", facts, ("bo",))
        self.sixty("ed 20 fay 20 gus 20 zed 40", facts, ("bo",), mode="heads")

    def test_the_first_taker_alone_is_stepped_in_for(self):
        facts = born("al: bo cy, bo: di, cy: ed") + died("bo cy")
        self.sixty("di 60 zed 40", facts, ("bo", "cy"))
        self.sixty("ed 60 zed 40", facts, ("cy", "bo"))
        self.sixty("zed 100", facts + died("di"), ("bo", "cy"))

    def test_the_node_of_the_first_taker_is_gone(self):
        for mode in ("stocks", "heads"):
            self.sixty("zed 100", born("al: bo") + died("bo"), ("bo",), mode=mode)
            self.sixty("zed 100", born("al: bo, bo: cy") + died("bo cy"), ("bo",), mode=mode)
            self.sixty("zed 100", born("al: bo, bo: cy") + died("bo") + [("renounced", "cy")], ("bo",), mode=mode)

    def test_the_rules_tell_that_nobody_steps_in(self):
        facts = born("al: bo, bo: cy") + died("bo")
        for mode in ("stocks", "heads"):
            self.sixty("zed 100", facts, ("bo",), steps_in=False, mode=mode)
            self.sixty("cy 60 zed 40", facts, ("bo",), steps_in=True, mode=mode)

    def test_the_first_taker_is_not_near(self):
        self.sixty("zed 100", born("mo: al sis") + died("mo"), ("mo",))
        self.sixty("zed 100", born("ed: cy") + WED + died("ed"), ("ed",))
        self.sixty("zed 100", born("eve: cy") + died("eve"), ("eve",))
        self.sixty("zed 100", born("gran: mo aunt, mo: al, aunt: cos") + died("aunt"), ("aunt",))

    def test_a_later_taker_who_would_be_near(self):
        facts = born("al: bo, bo: cy, eve: fay") + died("bo eve")
        self.sixty("zed 100", facts, ("eve", "bo"))
        self.sixty("cy 60 zed 40", facts, ("bo", "eve"))

    def test_the_dead_person_as_first_taker(self):
        self.sixty("zed 100", born("al: bo"), ("al",))
        self.sixty("bo 60 zed 40", born("al: bo, mo: al"), ("al",))
        self.sixty("zed 100", born("mo: al sis"), ("al",))
        self.sixty("bo 60 zed 40", born("al: bo"), ("al", "bo"))

    def test_the_child_of_the_dead_person_and_of_another(self):
        self.sixty("zed 100", born("al: bo, eve: bo") + died("bo"), ("bo",))
        self.sixty("cy 60 zed 40", born("al: bo, eve: bo, bo: cy") + died("bo eve"), ("bo",))
        self.sixty("zed 100", born("al: bo, eve: bo, bo: cy") + died("bo eve"), ("eve",))


class GiftsThatCount(Checks):
    goods = {"things": [("house", 50), ("ring", 7)]}

    def test_the_first_gift_of_a_thing(self):
        will = [("thing", 1, "house", ("bo",)), ("thing", 2, "house", ("cy",)), TO_ZED]
        self.things([("house", "bo")], "zed 107", [], self.goods, will)
        self.things([("house", "cy")], "zed 107", [], self.goods, will[1::-1] + [TO_ZED])

    def test_the_first_gift_of_a_thing_lapses(self):
        will = [("thing", 1, "house", ("bo",)), ("thing", 2, "house", ("cy",)), TO_ZED]
        self.things([("house", "cy")], "zed 107", died("bo"), self.goods, will)
        self.things([("house", "bo")], "zed 107", died("cy"), self.goods, will)
        self.things([], "zed 157", died("bo cy"), self.goods, will)

    def test_a_gift_that_is_taken_by_others_does_not_lapse(self):
        will = [("thing", 1, "house", ("bo",)), ("thing", 2, "house", ("cy",)), TO_ZED]
        self.things([("house", "di")], "zed 107", born("al: bo, bo: di") + died("bo"), self.goods, will)

    def test_a_thing_that_is_given_thrice(self):
        will = [("thing", at, "house", (name,)) for at, name in enumerate(["bo", "cy", "di"])] + [TO_ZED]
        self.things([("house", "di")], "zed 107", died("bo cy"), self.goods, will)
        self.things([("house", "cy")], "zed 107", died("bo di"), self.goods, will)

    def test_the_worth_of_a_thing_that_is_given_twice_counts_once(self):
        will = [("thing", 1, "house", ("bo",)), ("thing", 2, "house", ("cy",)), ("sum", 3, 50, ("di",)), TO_ZED]
        self.things([("house", "bo")], "di 50 zed 7", [], {"coins": 50, **self.goods}, will)

    def test_a_thing_that_the_estate_does_not_have(self):
        will = [("thing", 1, "boat", ("bo",)), ("thing", 2, "house", ("cy",)), TO_ZED]
        self.things([("house", "cy")], "zed 107", [], self.goods, will)
        self.things([], "zed 157", [], self.goods, [("thing", 1, "boat", ("bo",)), TO_ZED])
        self.things([], "zed 100", [], {}, will)

    def test_gifts_of_several_things(self):
        will = [("thing", 1, "ring", ("bo",)), ("thing", 2, "house", ("bo",)), TO_ZED]
        self.things([("house", "bo"), ("ring", "bo")], "zed 100", [], self.goods, will)

    def test_sums_that_lapse(self):
        will = [("sum", 1, 30, ("bo",)), ("sum", 2, 20, ("cy",)), TO_ZED]
        self.coins("bo 30 cy 20 zed 50", [], None, will)
        self.coins("cy 20 zed 80", died("bo"), None, will)
        self.coins("bo 30 zed 70", died("cy"), None, will)
        self.coins("zed 100", died("bo cy"), None, will)

    def test_several_sums_of_one_taker(self):
        self.coins("bo 50 zed 50", [], None, [("sum", 1, 30, ("bo",)), ("sum", 2, 20, ("bo",)), TO_ZED])
        self.coins("bo 60 zed 40", [], None, [("sum", 1, 30, ("bo",)), ("sum", 2, 30, ("bo",)), TO_ZED])

    def test_rests_that_lapse(self):
        will = [("rest", 1, 1, ("bo",)), ("rest", 2, 3, ("cy",))]
        self.coins("bo 25 cy 75", [], None, will)
        self.coins("cy 100", died("bo"), None, will)
        self.coins("bo 100", died("cy"), None, will)

    def test_gifts_that_are_revoked(self):
        will = [("sum", 1, 30, ("bo",)), ("sum", 2, 20, ("cy",)), ("revoke", 1), TO_ZED]
        self.coins("cy 20 zed 80", [], None, will)
        self.coins("crown 100", [], None, will + [("revoke",)])
        self.coins("cy 20 zed 80", [], None, [("sum", 1, 30, ("bo",)), ("sum", 1, 20, ("cy",)), TO_ZED])


class TooLittle(Checks):
    """A house of 100 for bo, a ring of 50 for cy, sums of 60 and 40 for di and ed, the rest for zed."""
    things_left = [("house", 100), ("ring", 50)]
    will = [("sum", 1, 60, ("di",)), ("thing", 2, "ring", ("cy",)), ("rest", 3, 5, ("zed",)),
            ("thing", 4, "house", ("bo",)), ("sum", 5, 40, ("ed",))]
    both = [("house", "bo"), ("ring", "cy")]

    def left(self, many, things, coins, will=None):
        """The debts leave so much, as there are few coins or great debts."""
        will = self.will if will is None else will
        ways = [(max(0, many - 150), max(0, 150 - many)), (many, 150), (many + 1000, 1150)]
        for coins_left, debt in ways:
            goods = {"coins": coins_left, "things": self.things_left, "debts": [("gus", 3, debt)]}
            self.things(things, coins, [], goods, will)
            self.assertEqual(self.division([], goods, will)[0], [("gus", debt)])

    def test_more_than_is_needed(self):
        self.left(251, self.both, "di 60 ed 40 zed 1")
        self.left(1000, self.both, "di 60 ed 40 zed 750")

    def test_just_what_is_needed(self):
        self.left(250, self.both, "di 60 ed 40")

    def test_less_than_the_sums_need(self):
        self.left(200, self.both, "di 30 ed 20")
        self.left(155, self.both, "di 3 ed 2")
        self.left(249, self.both, "di 59 ed 40")
        self.left(151, self.both, "di 1")

    def test_just_the_worth_of_the_things(self):
        self.left(150, self.both, "")

    def test_less_than_the_things_are_worth(self):
        self.left(75, [], "bo 50 cy 25")
        self.left(149, [], "bo 99 cy 50")
        self.left(3, [], "bo 2 cy 1")
        self.left(1, [], "bo 1")

    def test_nothing(self):
        self.left(0, [], "")

    def test_without_things(self):
        will = [line for line in self.will if line[0] != "thing"]
        self.left(101, [], "di 60 ed 40 zed 1", will)
        self.left(100, [], "di 60 ed 40", will)
        self.left(50, [], "di 30 ed 20", will)
        self.left(0, [], "", will)

    def test_without_sums(self):
        will = [line for line in self.will if line[0] != "sum"]
        self.left(151, self.both, "zed 1", will)
        self.left(150, self.both, "", will)
        self.left(75, [], "bo 50 cy 25", will)
        self.left(0, [], "", will)

    def test_without_both(self):
        self.left(10, [], "zed 10", self.will[2:3])
        self.left(0, [], "", self.will[2:3])
        self.left(7, [], "crown 7", [])
        self.left(0, [], "", [])

    def test_sums_of_nothing(self):
        will = [("sum", 1, 0, ("di",)), ("sum", 2, 0, ("ed",)), TO_ZED]
        self.left(10, [], "zed 10", will)
        self.left(0, [], "", will)
        self.left(10, [], "ed 10", [("sum", 1, 0, ("di",)), ("sum", 2, 20, ("ed",)), TO_ZED])

    def test_gifts_that_do_not_count_need_nothing(self):
        will = self.will + [("sum", 6, 1000, ("al",)), ("thing", 7, "boat", ("bo",)), ("thing", 8, "ring", ("bo",))]
        self.left(250, self.both, "di 60 ed 40", will)
        self.left(200, self.both, "di 30 ed 20", will)

    def test_there_is_no_rest(self):
        self.left(250, self.both, "di 60 ed 40", self.will[:2] + self.will[3:])
        self.left(75, [], "bo 50 cy 25", self.will[:2] + self.will[3:])

    def test_debts_that_are_not_paid_in_full(self):
        goods = {"coins": 10, "things": self.things_left, "debts": [("gus", 3, 100), ("hal", 3, 300), ("ida", 4, 5)]}
        self.assertEqual(self.division([], goods, self.will), ([("gus", 40), ("hal", 120), ("ida", 0)], [], []))


class Things(Checks):
    def test_one_taker(self):
        goods = {"coins": 0, "things": [("ring", 50)]}
        self.things([("ring", "bo")], "", [], goods, [("thing", 1, "ring", ("bo", "cy"))])
        facts = born("al: bo, bo: cy") + died("bo")
        self.things([("ring", "cy")], "", facts, goods, [("thing", 1, "ring", ("bo",))])

    def test_one_taker_by_several_parts(self):
        facts = born("al: bo, bo: cy di, cy: ed, di: ed") + died("bo cy di")
        goods = {"coins": 9, "things": [("ring", 50)]}
        self.things([("ring", "ed")], "ed 9", facts, goods, [("thing", 1, "ring", ("bo",))])

    def test_one_taker_of_a_thing_that_is_sold(self):
        goods = {"coins": 5, "things": [("ring", 50), ("cup", 10)], "debts": [("gus", 1, 30)]}
        will = [("thing", 1, "ring", ("bo",)), ("thing", 2, "cup", ("cy",))]
        self.things([], "bo 29 cy 6", [], goods, will)
        self.things([("cup", "cy")], "crown 25", [], goods, will[1:])

    def test_several_takers(self):
        facts = born("al: bo, bo: cy di, di: ed fay") + died("bo di")
        goods = {"coins": 9, "things": [("ring", 50)]}
        self.things([], "cy 25 ed 13 fay 12 zed 9", facts, goods, [("thing", 1, "ring", ("bo",)), TO_ZED])
        self.things([], "cy 29 ed 15 fay 15", facts, goods, [("thing", 1, "ring", ("bo",))])

    def test_several_takers_of_a_thing_that_is_sold_anyway(self):
        facts = born("al: bo, bo: cy di, di: ed fay") + died("bo di")
        goods = {"coins": 0, "things": [("ring", 60)], "debts": [("gus", 1, 20)]}
        self.things([], "cy 20 ed 10 fay 10", facts, goods, [("thing", 1, "ring", ("bo",)), TO_ZED])

    def test_several_takers_beside_one_taker(self):
        facts = born("al: bo, bo: cy di") + died("bo")
        goods = {"coins": 1, "things": [("ring", 60), ("cup", 30)]}
        will = [("thing", 1, "ring", ("bo",)), ("thing", 2, "cup", ("cy",)), TO_ZED]
        self.things([("cup", "cy")], "cy 30 di 30 zed 1", facts, goods, will)
        self.things([], "cy 53 di 27", facts, {**goods, "debts": [("gus", 1, 11)]}, will)

    def test_a_thing_of_no_worth(self):
        goods = {"coins": 0, "things": [("ring", 0)]}
        self.things([("ring", "bo")], "", [], goods, [("thing", 1, "ring", ("bo",))])
        self.things([("ring", "bo")], "", [], {**goods, "debts": [("gus", 1, 5)]}, [("thing", 1, "ring", ("bo",))])
        facts = born("al: bo, bo: cy di") + died("bo")
        self.things([], "", facts, goods, [("thing", 1, "ring", ("bo",))])

    def test_a_thing_of_no_worth_beside_another(self):
        goods = {"coins": 3, "things": [("ring", 0), ("cup", 10)]}
        will = [("thing", 1, "ring", ("bo",)), ("thing", 2, "cup", ("cy",)), TO_ZED]
        self.things([("cup", "cy"), ("ring", "bo")], "zed 3", [], goods, will)
        self.things([], "cy 9", [], {**goods, "debts": [("gus", 1, 4)]}, will)

    def test_things_that_nobody_is_given(self):
        goods = {"coins": 5, "things": [("ring", 50), ("cup", 10)]}
        self.things([], "zed 65", [], goods, [TO_ZED])
        self.things([("cup", "bo")], "zed 55", [], goods, [("thing", 1, "cup", ("bo",)), TO_ZED])

    def test_the_things_ascend(self):
        names = ["z", "b", "a_a", "_", "ab", "a"]
        goods = {"coins": 0, "things": [(name, 1) for name in names]}
        will = [("thing", at, name, ("bo" if at % 2 else "cy",)) for at, name in enumerate(names)]
        self.things([("_", "bo"), ("a", "bo"), ("a_a", "cy"), ("ab", "cy"), ("b", "bo"), ("z", "cy")], "", [], goods,
                    will)


class Rests(Checks):
    def test_by_weights(self):
        self.coins("bo 25 cy 75", [], None, [("rest", 1, 1, ("bo",)), ("rest", 2, 3, ("cy",))])
        self.coins("bo 50 cy 50", [], None, [("rest", 1, 7, ("bo",)), ("rest", 2, 7, ("cy",))])
        self.coins("bo 20 cy 30 di 50", [], None,
                   [("rest", 1, 2, ("bo",)), ("rest", 2, 3, ("cy",)), ("rest", 3, 5, ("di",))])
        self.coins("bo 100", [], None, [("rest", 1, 1000000000, ("bo",)), ("rest", 2, 1, ("cy",))])

    def test_behind_sums(self):
        self.coins("bo 10 cy 30 di 60", [], None,
                   [("rest", 1, 1, ("bo",)), ("sum", 3, 60, ("di",)), ("rest", 2, 3, ("cy",))])

    def test_several_of_one_taker(self):
        self.coins("bo 50 cy 50", [], None,
                   [("rest", 1, 1, ("bo",)), ("rest", 2, 2, ("cy",)), ("rest", 3, 1, ("bo",))])

    def test_by_the_shares_of_a_node(self):
        facts = born("al: bo, bo: cy di") + died("bo")
        self.coins("cy 10 di 10 gus 80", facts, None, [("rest", 1, 1, ("bo",)), ("rest", 2, 4, ("gus",))])

    def test_nothing_goes_by_descent_beside_them(self):
        self.coins("bo 100", born("al: cy") + WED, None, [("rest", 1, 1, ("bo",))])
        self.coins("ed 100", born("al: cy") + WED, None, [("rest", 1, 1, ("ed",))])

    def test_none_counts(self):
        self.coins("cy 100", born("al: cy"), None, [])
        self.coins("cy 100", born("al: cy") + died("bo"), None, [("rest", 1, 1, ("bo",))])
        self.coins("bo 60 cy 40", born("al: cy"), None, [("sum", 1, 60, ("bo",))])
        self.coins("crown 100", died("bo"), None, [("rest", 1, 1, ("bo",)), ("rest", 2, 1, ("al",))])

    def test_nothing_is_left(self):
        will = [("sum", 1, 100, ("di",)), ("rest", 2, 1, ("bo",)), ("rest", 3, 2, ("cy",))]
        self.coins("di 100", [], None, will)
        self.coins("", [], {"coins": 0}, will)

    def test_advances_play_no_part(self):
        facts = born("al: bo cy") + [("advance", "bo", 10)]
        self.coins("bo 50 cy 50", facts, None, [("rest", 1, 1, ("bo",)), ("rest", 2, 1, ("cy",))])
        self.coins("bo 50 cy 50", born("mo: al") + facts, None, [("rest", 1, 1, ("al",))])
        self.coins("bo 45 cy 55", facts)


class ByDescent(Checks):
    up = born("mo: al, fa: al, gran: mo, opa: fa, ur: gran, urur: ur")

    def test_the_row_zero(self):
        self.coins("bo 100", born("al: bo") + self.up)
        self.coins("bo 50 cy 50", born("al: bo cy") + self.up)
        self.coins("bo 50 di 25 ed 25", born("al: bo cy, cy: di ed") + died("cy") + self.up)

    def test_the_row_one(self):
        self.coins("fa 50 mo 50", self.up)
        self.coins("fa 100", self.up + died("mo"))
        self.coins("fa 50 sis 50", self.up + born("mo: sis") + died("mo"))
        self.coins("fa 50 mo 50", self.up + born("al: bo") + died("bo"))

    def test_the_row_two(self):
        self.coins("gran 50 opa 50", self.up + died("fa mo"))
        self.coins("opa 100", self.up + died("fa mo gran"))
        self.coins("aunt 25 opa 50 unc 25", self.up + born("gran: aunt unc") + died("fa mo gran"))

    def test_the_row_three(self):
        self.coins("ur 100", self.up + died("fa mo gran opa"))
        self.coins("ant 100", self.up + born("ur: ant") + died("fa mo gran opa ur"))

    def test_rows_beyond_the_rules(self):
        self.coins("crown 100", self.up + died("fa mo gran opa ur"))
        for rows, wanted in [(0, "crown 100"), (1, "crown 100"), (2, "crown 100"), (3, "ur 100")]:
            self.coins(wanted, self.up + died("fa mo gran opa"), rows=rows, spouse=((0, 1),) * (rows + 1))
        for rows, wanted in [(0, "crown 100"), (1, "fa 50 mo 50"), (2, "fa 50 mo 50")]:
            self.coins(wanted, self.up, rows=rows, spouse=((0, 1),) * (rows + 1))
        self.coins("bo 100", self.up + born("al: bo"), rows=0, spouse=((1, 2),))

    def test_spouses_beside_each_row(self):
        pairs = ((1, 5), (2, 5), (3, 5), (4, 5))
        for facts, wanted in [
                (born("al: bo"), "bo 80 ed 20"), ([], "ed 40 fa 30 mo 30"), (died("mo"), "ed 40 fa 60"),
                (died("mo fa"), "ed 60 gran 20 opa 20"), (died("mo fa gran opa"), "ed 80 ur 20"),
                (died("mo fa gran opa ur"), "ed 100")]:
            self.coins(wanted, facts + self.up + WED, spouse=pairs)

    def test_the_rules_without_arguments(self):
        for facts, wanted in [
                (born("al: bo"), "bo 50 ed 50"), ([], "ed 75 fa 13 mo 12"), (died("mo fa"), "ed 100"),
                (died("mo fa gran opa"), "ed 100")]:
            self.coins(wanted, facts + self.up + WED)

    def test_a_spouse_who_does_not_survive(self):
        for more in (died("ed"), [("renounced", "ed")], [("parted", "ed", "al")]):
            self.coins("bo 100", born("al: bo") + WED + more)
            self.coins("fa 50 mo 50", self.up + WED + more)
            self.coins("crown 100", WED + more)
            self.coins("bo 100", born("al: bo") + WED + more, spouse=((1, 1),) * 4)

    def test_several_spouses(self):
        wed = WED + [("wed", "fay", "al"), ("wed", "al", "gus"), ("wed", "hal", "al")] + died("hal")
        self.coins("bo 40 ed 20 fay 20 gus 20", born("al: bo") + wed, spouse=((3, 5),) * 4)
        self.coins("ed 34 fay 33 gus 33", wed)
        self.coins("ed 50 gus 50", wed + [("renounced", "fay")])

    def test_a_spouse_has_all_or_nothing_in_a_row(self):
        facts = born("al: bo") + WED
        self.coins("bo 100", facts, spouse=((0, 1), (1, 2), (1, 2), (1, 2)))
        self.coins("bo 100", facts, spouse=((0, 1000), (1, 2), (1, 2), (1, 2)))
        self.coins("ed 100", facts, spouse=((1, 1), (1, 2), (1, 2), (1, 2)))
        self.coins("ed 100", facts, spouse=((1000, 1000), (1, 2), (1, 2), (1, 2)))
        self.coins("fa 50 mo 50", self.up + WED, spouse=((1, 2), (0, 7), (1, 2), (1, 2)))
        self.coins("ed 100", self.up + WED, spouse=((1, 2), (7, 7), (1, 2), (1, 2)))

    def test_nobody_but_spouses(self):
        self.coins("ed 100", WED, spouse=((0, 1),) * 4)
        self.coins("ed 100", WED, rows=0, spouse=((0, 1),))
        self.coins("ed 100", WED + self.up, rows=0, spouse=((0, 1),))

    def test_the_crown(self):
        self.coins("crown 100", [])
        self.coins("crown 100", died("bo ed mo") + born("al: bo, mo: al") + WED)
        self.coins("crown 40 zed 60", [], None, [("sum", 1, 60, ("zed",))])
        self.coins("", [], {"coins": 0})

    def test_a_spouse_who_is_a_taker_too(self):
        self.coins("bo 75 cy 25", born("al: bo cy") + [("wed", "al", "bo")])
        self.coins("mo 100", born("mo: al") + [("wed", "al", "mo")])

    def test_stocks_and_heads(self):
        facts = born("al: bo cy, bo: di, cy: ed fay gus") + died("bo cy")
        self.coins("di 50 ed 17 fay 17 gus 16", facts)
        self.coins("di 25 ed 25 fay 25 gus 25", facts, mode="heads")
        self.coins("di 50 ed 25 fay 25", facts + died("gus"))
        self.coins("di 34 ed 33 fay 33", facts + died("gus"), mode="heads")

    def test_rows_above_by_stocks_and_heads(self):
        facts = born("mo: al bo cy, bo: di, cy: ed fay gus, fa: al") + died("mo bo cy fa")
        self.coins("di 50 ed 17 fay 17 gus 16", facts)
        self.coins("di 25 ed 25 fay 25 gus 25", facts, mode="heads")

    def test_the_shares_of_rows_above(self):
        facts = self.up + born("mo: sis bro, fa: bro half, bro: tim, half: ulf") + died("mo fa half")
        self.coins("bro 50 sis 25 ulf 25", facts)
        self.coins("sis 25 tim 50 ulf 25", facts + [("renounced", "bro")])

    def test_a_rest_of_nothing(self):
        for facts in ([], born("al: bo cy"), born("al: bo cy") + WED, self.up, WED, self.up + WED,
                      born("al: bo cy") + [("advance", "bo", 5)]):
            self.coins("", facts, {"coins": 0})
            self.coins("zed 100", facts, None, [("sum", 1, 100, ("zed",))])
            self.coins("zed 100", facts, None, [("sum", 1, 101, ("zed",))])

    def test_things_that_are_sold_belong_to_it(self):
        self.coins("bo 160", born("al: bo"), {"things": [("ring", 60)]})
        self.coins("bo 130", born("al: bo"), {"things": [("ring", 60)], "debts": [("zed", 1, 30)]})


class Advances(Checks):
    family = born("al: bo cy di, bo: ed, cy: fay gus")

    def advanced(self, wanted, text, facts=None, goods=None, **book):
        """The coins of the takers are these after such advances: "bo 10" tells of one."""
        words = text.split()
        told = [("advance", name, int(many)) for name, many in zip(words[::2], words[1::2])]
        self.coins(wanted, (self.family if facts is None else facts) + told, goods, **book)

    def test_children(self):
        self.advanced("bo 34 cy 33 di 33", "")
        self.advanced("bo 30 cy 40 di 30", "bo 20 cy 10 di 20")
        self.advanced("bo 24 cy 34 di 42", "bo 18 cy 8")

    def test_an_advance_that_is_told_in_parts(self):
        self.advanced("bo 20 cy 40 di 40", "bo 7 bo 6 bo 7")
        self.advanced("bo 20 cy 40 di 40", "bo 10 bo 10")

    def test_advances_above_the_level(self):
        self.advanced("cy 50 di 50", "bo 50")
        self.advanced("cy 50 di 50", "bo 1000000000")
        self.advanced("bo 1 cy 50 di 49", "bo 49")
        self.advanced("di 100", "bo 100 cy 100")
        self.advanced("bo 34 cy 33 di 33", "bo 1000 cy 1000 di 1000")
        self.advanced("bo 95 cy 5", "bo 1000 cy 1090 di 1100")

    def test_a_child_that_has_fallen_away(self):
        self.advanced("cy 40 di 60", "bo 500 cy 20", self.family + died("bo ed"))

    def test_the_children_of_a_child_share_what_is_left_of_its_part(self):
        self.advanced("bo 40 di 40 fay 10 gus 10", "cy 20", self.family + died("cy"))
        self.advanced("bo 50 di 50", "cy 50", self.family + died("cy"))
        self.advanced("di 55 ed 35 fay 5 gus 5", "bo 20 cy 45", self.family + died("bo cy"))

    def test_advances_of_others(self):
        self.advanced("bo 33 di 33 fay 17 gus 17", "fay 20 gus 5 ed 7 zoe 9 al 5", self.family + died("cy"))
        self.advanced("bo 34 cy 33 di 33", "fay 20 ed 7 mo 30", self.family + born("mo: al"))
        self.advanced("bo 17 cy 17 di 16 ham 50", "ham 30", self.family + [("wed", "al", "ham")])

    def test_takers_of_gifts(self):
        will = [("sum", 1, 60, ("zed",)), ("sum", 2, 10, ("di",))]
        facts = self.family + [("advance", "zed", 30), ("advance", "bo", 12)]
        self.coins("bo 2 cy 14 di 24 zed 60", facts, None, will)
        facts = self.family + died("di") + born("di: hal ida")
        self.coins("bo 20 cy 20 hal 30 ida 30", facts + [("advance", "hal", 30)], None, [("sum", 1, 40, ("di",))])

    def test_rows_above_zero(self):
        facts = born("mo: al sis bro, fa: al")
        self.advanced("fa 50 mo 50", "mo 20", facts)
        self.advanced("bro 25 fa 50 sis 25", "sis 20 mo 10 al 5 fa 7", facts + died("mo"))
        self.advanced("bro 25 fa 50 sis 25", "sis 20 mo 10", facts + died("mo"), mode="heads")

    def test_beside_spouses(self):
        facts = self.family + [("wed", "al", "ham")]
        self.advanced("bo 4 cy 23 di 23 ham 50", "bo 19", facts)
        self.advanced("cy 12 di 13 ham 75", "bo 30 cy 1", facts, spouse=((3, 4),) * 4)
        self.advanced("ham 100", "bo 19", facts, spouse=((1, 1),) * 4)

    def test_heads(self):
        facts = self.family + died("bo cy di")
        self.advanced("ed 20 fay 40 gus 40", "ed 20", facts, mode="heads")
        self.advanced("ed 34 fay 33 gus 33", "bo 20 cy 10 di 500", facts, mode="heads")
        self.advanced("ed 40 fay 30 gus 30", "bo 20 ed 7", facts, mode="stocks")
        self.advanced("cy 60 di 40", "di 20", self.family + died("bo ed"), mode="heads")

    def test_parts_that_divide_by_heads(self):
        facts = born("al: bo cy, bo: di ed, di: fay gus, ed: ham") + died("bo cy di")
        self.advanced("ed 60 fay 20 gus 20", "di 20 fay 50", facts, mode="heads")
        self.advanced("ed 50 fay 25 gus 25", "di 20 fay 50 bo 7", facts, mode="stocks")

    def test_a_part_that_is_not_whole(self):
        self.advanced("bo 34 cy 34 ham 33", "", born("al: bo cy") + [("wed", "al", "ham")], {"coins": 101},
                      spouse=((1, 3),) * 4)
        self.advanced("bo 9 cy 16 ham 76", "bo 7", born("al: bo cy") + [("wed", "al", "ham")], {"coins": 101},
                      spouse=((3, 4),) * 4)

    def test_nothing(self):
        self.advanced("", "bo 19 cy 7", None, {"coins": 0})

    def test_advances_are_not_paid_back(self):
        self.advanced("cy 3 di 2", "bo 1000", None, {"coins": 5})


class WholeCoins(Checks):
    def test_the_greatest_remainders(self):
        self.coins("bo 2 cy 1", [], {"coins": 3}, [("rest", 1, 5, ("bo",)), ("rest", 2, 4, ("cy",))])
        self.coins("bo 1 cy 2", [], {"coins": 3}, [("rest", 1, 4, ("bo",)), ("rest", 2, 5, ("cy",))])
        self.coins("bo 1 di 1", [], {"coins": 2},
                   [("rest", 1, 4, ("bo",)), ("rest", 2, 3, ("cy",)), ("rest", 3, 4, ("di",))])

    def test_equal_remainders(self):
        self.coins("bo 34 cy 33 di 33", born("al: di cy bo"))
        self.coins("bo 1 cy 1", born("al: di cy bo"), {"coins": 2})
        self.coins("p10 1", born("al: p2 p10"), {"coins": 1})

    def test_the_crown_is_a_name_like_others(self):
        self.coins("crown 1", [], {"coins": 1})

    def test_shares_of_one_name_are_added_before(self):
        will = [("rest", 1, 1, ("bo",)), ("rest", 2, 1, ("bo",)), ("rest", 3, 1, ("ab",))]
        self.coins("bo 1", [], {"coins": 1}, will)
        self.coins("ab 1 bo 3", [], {"coins": 4}, will)
        self.coins("ab 2 bo 3", [], {"coins": 5}, will)

    def test_shares_over_gifts_and_descent_are_added_before(self):
        facts = born("al: bo cy, cy: di ed") + died("cy")
        self.coins("bo 50 di 26 ed 26", facts, {"coins": 102}, [("sum", 1, 1, ("di",)), ("sum", 2, 1, ("ed",))])
        self.coins("bo 2 ed 2", born("al: bo ed"), {"coins": 4}, [("sum", 1, 1, ("ed",)), ("sum", 2, 1, ("bo",))])

    def test_debts(self):
        goods = {"coins": 10, "debts": [("zed", 1, 5), ("bo", 1, 5), ("zed", 1, 5)]}
        self.assertEqual(self.division([], goods), ([("zed", 4), ("bo", 3), ("zed", 3)], [], []))
        goods = {"coins": 11, "debts": [("zed", 2, 5), ("bo", 1, 3), ("zed", 2, 7)]}
        self.assertEqual(self.division([], goods), ([("zed", 3), ("bo", 3), ("zed", 5)], [], []))

    def test_more_than_ten_debts(self):
        for many in (11, 12, 25, 80):
            for coins in range(0, many, 3):
                goods = {"coins": coins, "debts": [("zed", 1, 1)] * many}
                wanted = [("zed", 1)] * coins + [("zed", 0)] * (many - coins)
                self.assertEqual(self.division([], goods), (wanted, [], []), (many, coins))

    def test_debts_that_are_paid_in_full_and_takers(self):
        goods = {"coins": 20, "debts": [("zed", 1, 5), ("bo", 2, 5), ("bo", 1, 0)]}
        self.assertEqual(self.division(born("al: bo cy di"), goods),
                         ([("zed", 5), ("bo", 5), ("bo", 0)], [], [("bo", 4), ("cy", 3), ("di", 3)]))

    def test_debts_that_leave_nothing_to_takers(self):
        goods = {"coins": 7, "things": [("ring", 3)], "debts": [("zed", 2, 5), ("bo", 2, 6)]}
        for will in ([], [("sum", 1, 5, ("bo",))], [("thing", 1, "ring", ("bo",))], [("rest", 1, 5, ("bo",))]):
            self.assertEqual(self.division(born("al: bo cy di"), goods, will), ([("zed", 5), ("bo", 5)], [], []))

    def test_a_creditor_who_takes(self):
        goods = {"coins": 20, "debts": [("bo", 1, 5), ("bo", 1, 3)]}
        self.assertEqual(self.division(born("al: bo"), goods), ([("bo", 5), ("bo", 3)], [], [("bo", 12)]))


class TheInterface(Checks):
    facts = [("child", "bo", "al"), ("child", "cy", "al"), ("child", "di", "cy"), ("died", "cy", 3),
             ("died", "al", 5), ("wed", "al", "ed")]

    def test_the_example_of_the_document(self):
        case = Case("al", self.facts, rules=Rules(), estate=Estate(101))
        self.assertEqual(divide(case).coins(), [('bo', 25), ('di', 25), ('ed', 51)])
        self.assertEqual((divide(case).debts(), divide(case).things()), ([], []))

    def test_the_kinds_of_values(self):
        will = [("thing", 1, "ring", ("bo",)), ("sum", 2, 3, ("zed",))]
        estate = Estate(10, things=[("ring", 5)], debts=[("gus", 1, 2)])
        found = divide(Case("al", self.facts, rules=Rules(), estate=estate, will=will))
        self.assertIs(type(found), Division)
        self.assertEqual(repr(shown(found)), "([('gus', 2)], [('ring', 'bo')], [('bo', 1), ('di', 1), ('ed', 3), "
                                             "('zed', 3)])")

    def test_accepts(self):
        case = Case("al", self.facts, rules=Rules(), estate=Estate(101), will=[("sum", 2, 3, ("zed",))])
        paper = make_paper(case)
        self.assertIs(accepts(case, paper), True)
        self.assertIs(accepts(paper=paper, case=case), True)
        for other in (None, (), paper[1:], paper[:-1], list(paper), paper + paper[-1:], paper[::-1], "paper", 0):
            self.assertIs(accepts(case, other), False)

    def test_the_paper_of_another_case(self):
        case = Case("al", self.facts, rules=Rules(), estate=Estate(101))
        other = Case("al", self.facts + [("renounced", "bo")], rules=Rules(), estate=Estate(101))
        self.assertIs(accepts(case, make_paper(other)), False)
        self.assertIs(accepts(other, make_paper(case)), False)
        same = Case("al", self.facts, rules=Rules(), estate=Estate(7))
        self.assertIs(accepts(same, make_paper(case)), True)

    def test_the_case_stays_as_it_was(self):
        will = [("thing", 1, "ring", ("bo",)), ("sum", 2, 3, ("cy",)), ("rest", 3, 3, ("zed",))]
        estate = Estate(10, things=[("ring", 5)], debts=[("gus", 1, 2)])
        case = Case("al", self.facts, rules=Rules(), estate=estate, will=will)
        before = copy.deepcopy((case.gifts, estate.things(), estate.debts(), make_paper(case)))
        first = shown(divide(case))
        self.assertEqual((case.gifts, estate.things(), estate.debts(), make_paper(case)), before)
        self.assertEqual(shown(divide(case)), first)

    def test_the_lists_are_of_their_own(self):
        will = [("thing", 1, "ring", ("bo",)), ("sum", 2, 3, ("cy",))]
        estate = Estate(10, things=[("ring", 5)], debts=[("gus", 1, 2)])
        found = divide(Case("al", self.facts, rules=Rules(), estate=estate, will=will))
        before = copy.deepcopy(shown(found))
        for told in shown(found):
            self.assertIs(type(told), list)
            self.assertTrue(told)
            told.clear()
        self.assertEqual(shown(found), before)

    def test_they_are_defined_in_this_file(self):
        for name in ("divide", "accepts", "Ledger"):
            self.assertEqual(getattr(division, name).__module__, "parcener.division")
        self.assertEqual(Division.__module__, "parcener.judge")
        for name in ("debts", "things", "coins"):
            self.assertIn(name, vars(Division))


if __name__ == "__main__":
    unittest.main()
