"""Point 8.1, and the ledgers of parcener/division.py of the interface."""

import random
import unittest

from helper import born, died, made, random_case
from parcener.cases import Case
from parcener.division import Ledger, divide
from parcener.estates import Estate
from parcener.rules import Rules

AL_DIED = ("died", "al", 1)


def case_of(facts, coins=100, will=(), things=(), debts=(), dead="al"):
    """A case of al, who has died on the day 1."""
    return Case(dead, facts + [AL_DIED], rules=Rules(), estate=Estate(coins, things=things, debts=debts), will=will)


class Checks(unittest.TestCase):
    def settled(self, ledger, case, wanted):
        """Settling pays just this, and leaves everybody with what the division gives them."""
        paid = ledger.settle(case)
        self.assertEqual(paid, wanted)
        self.assertIs(type(paid), list)
        for name, coins in divide(case).coins():
            self.assertEqual(ledger.paid(name), coins)


class Settling(Checks):
    def test_for_the_first_time(self):
        ledger = Ledger()
        self.settled(ledger, case_of(born("al: bo cy")), [("bo", 50), ("cy", 50)])
        self.assertEqual((ledger.paid("bo"), ledger.paid("cy")), (50, 50))

    def test_nobody_is_paid_twice(self):
        ledger = Ledger()
        case = case_of(born("al: bo cy"))
        self.settled(ledger, case, [("bo", 50), ("cy", 50)])
        for _ in range(3):
            self.settled(ledger, case, [])
            self.settled(ledger, case_of(born("al: cy bo")), [])
        self.assertEqual((ledger.paid("bo"), ledger.paid("cy")), (50, 50))

    def test_a_child_becomes_known(self):
        ledger = Ledger()
        self.settled(ledger, case_of(born("al: bo")), [("bo", 100)])
        self.settled(ledger, case_of(born("al: bo cy")), [("bo", -50), ("cy", 50)])
        self.settled(ledger, case_of(born("al: bo cy ab di")), [("ab", 25), ("bo", -25), ("cy", -25), ("di", 25)])
        self.assertEqual([ledger.paid(name) for name in ("ab", "bo", "cy", "di")], [25, 25, 25, 25])

    def test_somebody_takes_no_more(self):
        ledger = Ledger()
        self.settled(ledger, case_of(born("al: bo cy")), [("bo", 50), ("cy", 50)])
        self.settled(ledger, case_of(born("al: bo cy") + died("bo")), [("bo", -50), ("cy", 50)])
        self.assertEqual((ledger.paid("bo"), ledger.paid("cy")), (0, 100))
        self.settled(ledger, case_of(born("al: bo cy, bo: di") + died("bo")), [("cy", -50), ("di", 50)])
        self.assertEqual(ledger.paid("bo"), 0)
        self.settled(ledger, case_of(born("al: bo cy, bo: di")), [("bo", 50), ("di", -50)])

    def test_those_who_hold_what_they_take_are_not_among_the_payments(self):
        ledger = Ledger()
        self.settled(ledger, case_of(born("al: bo cy di"), 90), [("bo", 30), ("cy", 30), ("di", 30)])
        self.settled(ledger, case_of(born("al: bo cy di, cy: ed") + died("cy"), 90), [("cy", -30), ("ed", 30)])

    def test_the_crown(self):
        ledger = Ledger()
        self.assertEqual(ledger.paid("crown"), 0)
        self.settled(ledger, case_of([]), [("crown", 100)])
        self.assertEqual(ledger.paid("crown"), 100)
        self.settled(ledger, case_of(born("al: zoe")), [("crown", -100), ("zoe", 100)])
        self.assertEqual(ledger.paid("crown"), 0)
        self.settled(ledger, case_of(born("al: zoe"), will=[("sum", 1, 40, ("bo",))]), [("bo", 40), ("zoe", -40)])
        self.settled(ledger, case_of([], will=[("sum", 1, 40, ("bo",))]), [("crown", 60), ("zoe", -60)])

    def test_creditors_play_no_part(self):
        ledger = Ledger()
        case = case_of(born("al: bo"), debts=[("gus", 1, 30), ("bo", 1, 20)])
        self.settled(ledger, case, [("bo", 50)])
        self.assertEqual((ledger.paid("gus"), ledger.paid("bo")), (0, 50))
        self.settled(ledger, case_of(born("al: bo"), debts=[("gus", 1, 100)]), [("bo", -50)])
        self.assertEqual((ledger.paid("gus"), ledger.paid("bo")), (0, 0))

    def test_things_play_no_part(self):
        ledger = Ledger()
        will = [("thing", 1, "ring", ("cy",))]
        self.settled(ledger, case_of(born("al: bo"), will=will, things=[("ring", 40)]), [("bo", 100)])
        self.assertEqual(ledger.paid("cy"), 0)
        facts = born("al: bo cy, cy: di ed") + died("cy")
        self.settled(ledger, case_of(facts, will=will, things=[("ring", 40)]), [("bo", -50), ("di", 45), ("ed", 45)])
        self.settled(ledger, case_of(born("al: bo"), will=will, things=[("ring", 40)]),
                     [("bo", 50), ("di", -45), ("ed", -45)])

    def test_nothing_to_pay(self):
        ledger = Ledger()
        self.settled(ledger, case_of(born("al: bo"), 0), [])
        self.settled(ledger, case_of(born("al: bo"), 1), [("bo", 1)])
        self.settled(ledger, case_of(born("al: bo"), 0), [("bo", -1)])
        self.settled(ledger, case_of(born("al: bo"), 0), [])

    def test_paid_of_somebody_unknown(self):
        ledger = Ledger()
        for name in ("zoe", "al", "crown"):
            self.assertEqual(ledger.paid(name), 0)
        ledger.settle(case_of(born("al: bo")))
        for name in ("zoe", "al", "crown"):
            self.assertEqual(ledger.paid(name), 0)
        self.assertIs(type(ledger.paid("zoe")), int)

    def test_asking_does_not_change_the_ledger(self):
        ledger = Ledger()
        ledger.paid("zoe")
        self.settled(ledger, case_of(born("al: bo")), [("bo", 100)])
        ledger.paid("zoe")
        self.settled(ledger, case_of(born("al: bo")), [])

    def test_the_payments_ascend(self):
        ledger = Ledger()
        self.settled(ledger, case_of(born("al: p2 p10 b ab a 0"), 6),
                     [(name, 1) for name in ["0", "a", "ab", "b", "p10", "p2"]])
        self.settled(ledger, case_of(born("al: p2 z0 m b"), 8),
                     [("0", -1), ("a", -1), ("ab", -1), ("b", 1), ("m", 2), ("p10", -1), ("p2", 1), ("z0", 2)])

    def test_another_dead_person(self):
        ledger = Ledger()
        self.settled(ledger, case_of(born("al: bo")), [("bo", 100)])
        self.settled(ledger, case_of(born("bo: cy") + died("bo"), 30, dead="bo"), [("bo", -100), ("cy", 30)])

    def test_several_ledgers_do_not_mix(self):
        one, two = Ledger(), Ledger()
        self.settled(one, case_of(born("al: bo")), [("bo", 100)])
        self.assertEqual(two.paid("bo"), 0)
        self.settled(two, case_of(born("al: bo"), 30), [("bo", 30)])
        self.assertEqual(one.paid("bo"), 100)

    def test_changes_of_the_payments_play_no_part(self):
        ledger = Ledger()
        ledger.settle(case_of(born("al: bo"))).clear()
        self.assertEqual(ledger.paid("bo"), 100)

    def test_the_interface(self):
        for name in ("__init__", "paid", "settle"):
            self.assertIn(name, vars(Ledger))
        ledger = Ledger()
        self.assertEqual(ledger.settle(case=case_of([])), [("crown", 100)])
        self.assertEqual(ledger.paid(name="crown"), 100)


class LaterFacts(Checks):
    def test_facts_in_any_order_lead_to_just_what_is_due(self):
        dice = random.Random(81)
        paid_back = 0
        for _ in range(150):
            dead, facts, book, goods, gifts = random_case(dice)
            death = [fact for fact in facts if fact[:2] == ("died", dead)]
            facts = dice.sample(facts, len(facts))
            ledger, held = Ledger(), {}
            for many in sorted({0, len(facts) // 3, len(facts) // 2, len(facts)}):
                case = made(dead, death + facts[:many], book, goods, gifts)
                due = dict(divide(case).coins())
                wanted = [(name, due.get(name, 0) - held.get(name, 0)) for name in sorted({*due, *held})]
                paid = ledger.settle(case)
                self.assertEqual(paid, [pair for pair in wanted if pair[1] != 0])
                paid_back += any(coins < 0 for _, coins in paid)
                for name in sorted({*due, *held, "zoe", "crown"}):
                    self.assertEqual(ledger.paid(name), due.get(name, 0))
                held = due
            # Whoever is settled but once, with all facts, holds the same.
            at_once = Ledger()
            at_once.settle(case)
            names = sorted({name for fact in facts for name in fact[1:] if isinstance(name, str)} | {"crown"})
            self.assertEqual([at_once.paid(name) for name in names], [ledger.paid(name) for name in names])
        self.assertGreater(paid_back, 50)

    def test_the_payments_add_up_to_the_estate(self):
        ledger, whole = Ledger(), 0
        for facts in (born("al: bo"), born("al: bo cy di"), born("al: bo cy di") + [("wed", "al", "ed")], [],
                      born("mo: al sis") + died("mo")):
            whole += sum(coins for _, coins in ledger.settle(case_of(facts, 101)))
            self.assertEqual(whole, 101)


if __name__ == "__main__":
    unittest.main()
