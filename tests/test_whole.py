"""The promise of the document's first paragraph over the whole program, and cases up to its bounds."""

import ast
import pathlib
import random
import unittest

import parcener
from helper import PlainCase, born, died, ladder, made, random_case, shown
from parcener.division import Ledger, accepts, divide
from parcener.judge import judge
from parcener.papers import make_paper

GOODS = {"coins": 1000}


class Checks(unittest.TestCase):
    def check_sum(self, args):
        """Every coin and thing goes to just one taker or creditor; returns the division."""
        found = divide(made(*args))
        goods = args[3]
        worths = dict(goods.get("things", ()))
        kept = [thing for thing, _ in found.things()]
        self.assertEqual(len(kept), len({*kept}))
        self.assertLessEqual({*kept}, {*worths})
        self.assertEqual([name for name, _ in found.debts()], [debt[0] for debt in goods.get("debts", ())])
        for coins in [coins for _, coins in found.debts()]:
            self.assertGreaterEqual(coins, 0)
        for coins in [coins for _, coins in found.coins()]:
            self.assertGreater(coins, 0)
        for told in (found.things(), found.coins()):
            self.assertEqual(told, sorted(told))
        names = [name for name, _ in found.coins()]
        self.assertEqual(len(names), len({*names}))
        whole = sum(coins for _, coins in found.debts() + found.coins()) + sum(worths[thing] for thing in kept)
        self.assertEqual(whole, goods["coins"] + sum(worths.values()))
        return found

    def check(self, args):
        """Also, facts in another order and told twice play no part; returns the division and the paper."""
        dead, facts, book, goods, gifts = args
        case = made(*args)
        found, paper = shown(self.check_sum(args)), make_paper(case)
        self.assertEqual(shown(judge(case, paper)), found)
        self.assertIs(accepts(case, paper), True)
        twice = facts + [fact for fact in facts if fact[0] != "advance"]
        for other in (facts[::-1], twice[:120], sorted(facts, key=repr)):
            again = made(dead, other, book, goods, gifts)
            self.assertEqual((shown(divide(again)), make_paper(again)), (found, paper))
            self.assertEqual(shown(judge(again, paper)), found)
        return found, paper


class ManyCases(Checks):
    def test_against_the_plain_words(self):
        dice = random.Random(91)
        for _ in range(1500):
            args = random_case(dice)
            self.assertEqual(shown(divide(made(*args))), PlainCase(*args).division(), args)

    def test_nothing_is_made_or_lost(self):
        dice = random.Random(92)
        for _ in range(1500):
            self.check_sum(random_case(dice))

    def test_the_order_of_the_facts_plays_no_part(self):
        dice = random.Random(93)
        for _ in range(200):
            self.check(random_case(dice))

    def test_advances_that_are_told_twice_are_added_up(self):
        facts = born("al: bo cy") + died("al") + [("advance", "bo", 100)]
        self.assertEqual(divide(made("al", facts, {}, GOODS, [])).coins(), [("bo", 450), ("cy", 550)])
        self.assertEqual(divide(made("al", facts + facts, {}, GOODS, [])).coins(), [("bo", 400), ("cy", 600)])

    def test_things_are_not_in_order(self):
        facts, gifts = died("al"), [("thing", 1, "b", ("bo",)), ("thing", 2, "a", ("cy",))]
        for things in ([("a", 1), ("b", 2)], [("b", 2), ("a", 1)]):
            found = self.check_sum(("al", facts, {}, {"coins": 0, "things": things}, gifts))
            self.assertEqual(found.things(), [("a", "cy"), ("b", "bo")])


class Bounds(Checks):
    """Cases up to the bounds of the document: all of them end soon."""

    def both(self, facts, goods, gifts=(), dead="al", **book):
        """What check returns in the modes stocks and heads."""
        return [self.check((dead, facts, {"mode": mode, **book}, goods, list(gifts))) for mode in ("stocks", "heads")]

    def coins(self, wanted, facts, goods, gifts=(), dead="al", **book):
        """The coins in both modes."""
        for found, _ in self.both(facts, goods, gifts, dead, **book):
            self.assertEqual(found[2], wanted)

    def test_fifty_generations_down(self):
        line = [("child", f"p{at + 1}", f"p{at}") for at in range(55)] + died(" ".join(f"p{at}" for at in range(55)))
        self.coins([("p55", 1000)], line, GOODS, dead="p0")
        self.coins([("crown", 1000)], line + died("p55"), GOODS, dead="p0")
        gifts = [("sum", at, 10, (f"p{at}",)) for at in range(1, 55)]
        self.coins([("p55", 540), ("zoe", 460)], line, GOODS, gifts + [("rest", 99, 1, ("zoe",))], "p0")
        self.coins([("zoe", 1000)], line + died("p55"), GOODS, gifts + [("rest", 99, 1, ("zoe",))], "p0")

    def test_fifty_generations_up(self):
        line = [("child", f"p{at}", f"p{at + 1}") for at in range(55)] + died(" ".join(f"p{at}" for at in range(55)))
        self.coins([("crown", 1000)], line, GOODS, dead="p0")
        self.coins([("p55", 1000)], line, GOODS, dead="p53")
        self.coins([("p1", 1000)], [fact for fact in line if fact != ("died", "p1", 1)], GOODS, dead="p0")

    def test_many_ways_down(self):
        gone = [("died", f"{one}{at}", 1) for one in "ab" for at in range(16)]
        facts = ladder(16, up=False) + gone
        self.coins([("a16", 500), ("b16", 500)], facts, GOODS, dead="a0")
        gifts = [("sum", at, 20, (f"{'ab'[at % 2]}{at // 2 + 1}",)) for at in range(30)] + [("rest", 99, 1, ("zoe",))]
        self.coins([("a16", 300), ("b16", 300), ("zoe", 400)], facts, GOODS, gifts, "a0")
        facts = facts + [("died", "a16", 1), ("died", "b16", 1)]
        self.coins([("crown", 1000)], facts, GOODS, dead="a0")

    def test_many_ways_down_from_rows_above(self):
        facts = ladder(16, up=False) + [("died", f"{one}{at}", 1) for one in "ab" for at in range(16)]
        for dead in ("a1", "a2", "a3"):
            child = f"a{int(dead[1:]) + 1}"
            self.coins([("a16", 500), ("b16", 500)], facts, GOODS, dead=dead)
            cut = [fact for fact in facts if not (fact[0] == "child" and fact[2] == dead)]
            self.assertIn(("child", child, dead), facts)
            self.coins([("a16", 500), ("b16", 500)], cut, GOODS, dead=dead)

    def test_many_ways_up(self):
        facts = ladder(29, up=True)
        self.coins([("a1", 500), ("b1", 500)], facts + died("a0"), GOODS, dead="a0")
        self.coins([("b0", 1000)], facts + died("a0 a1 b1"), GOODS, dead="a0")
        facts = [fact for fact in facts if fact[1] != "b0"]
        self.coins([("a2", 500), ("b2", 500)], facts + died("a0 a1 b1"), GOODS, dead="a0")

    def test_wide_generations_over_many_ways(self):
        rows = [[f"{sign}{at}" for at in range(6)] for sign in "cdefgh"]
        facts = [("child", name, "al") for name in rows[0]]
        for above, below in zip(rows, rows[1:]):
            facts += [("child", name, above[at]) for at, name in enumerate(below)]
            facts += [("child", name, above[at - 1]) for at, name in enumerate(below)]
        gone = [("died", name, 1) for names in rows[:-1] for name in names]
        wanted = [("h0", 170), ("h1", 170), ("h2", 170), ("h3", 170), ("h4", 170), ("h5", 170)]
        self.coins(wanted, facts + gone + died("al"), {"coins": 1020})

    def test_a_hundred_children(self):
        names = [f"c{at}" for at in range(100)]
        facts = [("child", name, "al") for name in names] + died("al")
        self.coins(sorted((name, 10) for name in names), facts, GOODS)
        for coins in (0, 1, 7, 99):
            self.coins([(name, 1) for name in sorted(names)[:coins]], facts, {"coins": coins})
        # At the level 10, eighty-one have 10 each, and the others what they have not had of it.
        advances = [("advance", name, at) for at, name in enumerate(names[:19])]
        wanted = [(name, 10 - at) for at, name in enumerate(names[:10])] + [(name, 10) for name in names[19:]]
        self.coins(sorted(wanted), facts + advances, {"coins": 865})

    def test_a_hundred_children_who_make_way(self):
        facts = [("child", f"c{at}", "al") for at in range(58)] + [("child", f"d{at}", f"c{at}") for at in range(29)]
        facts += [("renounced", f"c{at}") for at in range(29)] + died("al")
        wanted = sorted([(f"c{at}", 20) for at in range(29, 58)] + [(f"d{at}", 20) for at in range(29)])
        self.coins(wanted, facts, {"coins": 1160})

    def test_many_spouses(self):
        facts = [("wed", "al", f"s{at}") for at in range(100)] + died("al")
        self.coins(sorted((f"s{at}", 10) for at in range(100)), facts, GOODS)
        self.coins(sorted([(f"s{at}", 5) for at in range(100)] + [("bo", 500)]), facts + born("al: bo"), GOODS)

    def test_sixty_lines_of_five_takers(self):
        facts = born("al: " + " ".join(f"c{at}" for at in range(20)))
        facts += [("child", f"d{at}", f"c{at % 20}") for at in range(60)]
        facts += died("al " + " ".join(f"c{at}" for at in range(20)))
        gifts = [("sum", at, 3, tuple(f"c{(at + by) % 20}" for by in range(5))) for at in range(60)]
        self.coins(sorted((f"d{at}", 3) for at in range(60)), facts, {"coins": 180}, gifts)
        gifts = [("rest", at, 3, tuple(f"c{(at + by) % 20}" for by in range(5))) for at in range(60)]
        self.coins(sorted((f"d{at}", 3) for at in range(60)), facts, {"coins": 180}, gifts)
        gifts = [("rest", at, at + 1, ("al",) * 4 + (f"x{at}",)) for at in range(60)]
        self.coins(sorted((f"x{at}", at + 1) for at in range(60)), facts, {"coins": 1830}, gifts)
        gifts = [("sum", at, 10**9, ("al",) * 4 + (f"x{at}",)) for at in range(60)]
        self.coins(sorted((f"x{at}", 3) for at in range(60)), facts, {"coins": 180}, gifts)

    def test_eighty_debts(self):
        debts = [(f"g{at % 7}", at % 5, 10) for at in range(80)]
        for coins in (0, 159, 160, 300, 799, 800, 801):
            for found, _ in self.both(born("al: bo") + died("al"), {"coins": coins, "debts": debts}):
                wanted = [max(0, min(160, coins - 160 * rank)) for rank in range(5)]
                self.assertEqual([sum(many for at, (_, many) in enumerate(found[0]) if at % 5 == rank)
                                  for rank in range(5)], wanted)
                self.assertEqual(found[2], [("bo", coins - 800)] if coins > 800 else [])

    def test_twenty_things(self):
        things = [("t" + "_" * at, 10 * at) for at in range(12)] + [("u" + "x" * at, 7) for at in range(8)]
        gifts = [("thing", at, thing[0], (f"x{at}",)) for at, thing in enumerate(things)]
        for found, _ in self.both(died("al"), {"coins": 0, "things": things}, gifts):
            self.assertEqual(found, ([], sorted((thing, f"x{at}") for at, (thing, _) in enumerate(things)), []))
        debts = [("gus", 1, 358)]
        for found, _ in self.both(died("al"), {"coins": 0, "things": things, "debts": debts}, gifts):
            self.assertEqual((found[1], sum(many for _, many in found[2])), ([], 358))
            self.assertEqual(dict(found[2])["x11"], 55)

    def test_all_at_once(self):
        dice = random.Random(95)
        names = [f"p{at}" for at in range(40)]
        for _ in range(3):
            facts = [("child", names[at], parent) for at in range(1, 40)
                     for parent in sorted({names[max(0, at - dice.randint(1, 4))] for _ in range(2)})]
            facts = facts[:70] + died(" ".join(names[:20])) + [("advance", name, 7) for name in names[20:]]
            facts = facts[:115] + [("wed", "p3", f"s{at}") for at in range(5)]
            things = [("t" + "_" * at, dice.randint(0, 10**9)) for at in range(12)]
            things += [("u" + "_" * at, dice.randint(0, 10**9)) for at in range(8)]
            gifts = [(dice.choice(["sum", "rest"]), at, dice.randint(1, 10**9), tuple(dice.choices(names[:25], k=5)))
                     for at in range(40)]
            gifts += [("thing", 40 + at, thing[0], tuple(dice.choices(names[:20], k=5)))
                      for at, thing in enumerate(things)]
            debts = [(f"g{at}", dice.randint(0, 9), dice.randint(0, 10**8)) for at in range(80)]
            for coins in (10**9, 0):
                goods = {"coins": coins, "things": things, "debts": debts}
                for dead in ("p0", "p3"):
                    for will in (gifts, [], gifts[40:]):
                        self.both(facts, goods, will, dead)

    def test_a_ledger_over_many_cases(self):
        ledger = Ledger()
        for many in range(1, 101):
            facts = [("child", f"c{at}", "al") for at in range(many)] + died("al")
            ledger.settle(made("al", facts, {}, GOODS, []))
        self.assertEqual([ledger.paid(f"c{at}") for at in range(100)], [10] * 100)


class TheProgram(unittest.TestCase):
    """What the document says of the whole program: no clock, no random numbers and no files."""

    def test_the_imports(self):
        allowed = ("parcener", "math", "itertools", "heapq", "collections", "__future__")
        for file in sorted(pathlib.Path(parcener.__file__).parent.glob("*.py")):
            for node in ast.walk(ast.parse(file.read_text())):
                self.assertNotIsInstance(node, ast.Import)
                if isinstance(node, ast.ImportFrom):
                    self.assertIn(node.module.split(".")[0], allowed, file)
                if isinstance(node, ast.Name):
                    self.assertNotIn(node.id, ("open", "input", "exec", "eval", "__import__"), file)


if __name__ == "__main__":
    unittest.main()
