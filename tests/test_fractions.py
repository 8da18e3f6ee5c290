"""Points 1.1 and 1.2, and parcener/fractions.py of the interface."""

import copy
import random
import unittest
from fractions import Fraction
from itertools import permutations, product

from parcener import fractions
from parcener.fractions import (
    ONE, ZERO, fraction, in_coins, is_less, minus, over, plus, times, total, whole_part,
)

SOME = sorted({Fraction(top, bottom) for top in range(-7, 8) for bottom in range(1, 8)})
BIG = [Fraction(10**30 + 1, 3**40), Fraction(-(10**30), 7**30), Fraction(10**40), Fraction(-1, 10**40)]


def pair(value):
    """The pair that the document wants for a fraction of Python's library."""
    return (value.numerator, value.denominator)


class Checks(unittest.TestCase):
    def check(self, found, wanted):
        """One fraction: the right value, as a pair of integers in lowest terms."""
        self.assertIs(type(found), tuple)
        self.assertEqual([type(part) for part in found], [int, int])
        self.assertEqual(found, pair(wanted))


class Making(Checks):
    def test_lowest_terms(self):
        self.assertEqual(fraction(6, 4), (3, 2))
        self.assertEqual(fraction(3, 2), (3, 2))
        self.assertEqual(fraction(8, 4), (2, 1))
        self.assertEqual(fraction(4, 8), (1, 2))
        self.assertEqual(fraction(5, 5), (1, 1))

    def test_the_second_integer_is_greater_than_zero(self):
        self.assertEqual(fraction(1, -2), (-1, 2))
        self.assertEqual(fraction(-6, -4), (3, 2))
        self.assertEqual(fraction(-6, 4), (-3, 2))
        self.assertEqual(fraction(6, -4), (-3, 2))
        self.assertEqual(fraction(3, -1), (-3, 1))

    def test_zero(self):
        for bottom in (1, 5, -1, -5, 10**20, -(10**20)):
            self.assertEqual(fraction(0, bottom), (0, 1))

    def test_all_small_and_some_large(self):
        for top in range(-30, 31):
            for bottom in list(range(-30, 0)) + list(range(1, 31)):
                self.check(fraction(top, bottom), Fraction(top, bottom))
        self.check(fraction(2**200 * 3, 2**199 * -5), Fraction(6, -5))
        self.check(fraction(10**30 + 1, 10**30), Fraction(10**30 + 1, 10**30))

    def test_constants(self):
        self.check(ZERO, Fraction(0))
        self.check(ONE, Fraction(1))


class Reckoning(Checks):
    def test_examples(self):
        self.assertEqual(plus((1, 6), (1, 3)), (1, 2))
        self.assertEqual(minus((1, 6), (1, 3)), (-1, 6))
        self.assertEqual(times((2, 3), (3, 4)), (1, 2))
        self.assertEqual(over((2, 3), (4, 3)), (1, 2))
        self.assertEqual(over((2, 3), (-4, 3)), (-1, 2))
        self.assertEqual(plus((1, 2), (-1, 2)), (0, 1))
        self.assertEqual(minus((3, 4), (3, 4)), (0, 1))
        self.assertEqual(times((0, 1), (-3, 4)), (0, 1))
        self.assertEqual(over((0, 1), (-3, 4)), (0, 1))

    def test_all_pairs(self):
        for one, two in list(product(SOME, SOME)) + list(product(BIG, BIG + SOME)):
            left, right = pair(one), pair(two)
            self.check(plus(left, right), one + two)
            self.check(minus(left, right), one - two)
            self.check(times(left, right), one * two)
            self.assertIs(is_less(left, right), one < two)
            if two != 0:
                self.check(over(left, right), one / two)

    def test_is_less(self):
        self.assertIs(is_less((1, 3), (1, 2)), True)
        self.assertIs(is_less((1, 2), (1, 3)), False)
        self.assertIs(is_less((1, 2), (1, 2)), False)
        self.assertIs(is_less((-1, 2), (-1, 3)), True)
        self.assertIs(is_less((-1, 3), (-1, 2)), False)
        self.assertIs(is_less((-1, 2), (0, 1)), True)
        self.assertIs(is_less((10**20, 10**20 + 1), (10**20 + 1, 10**20 + 2)), True)

    def test_total(self):
        self.assertEqual(total([]), (0, 1))
        self.assertEqual(total(()), (0, 1))
        self.assertEqual(total([(3, 7)]), (3, 7))
        self.assertEqual(total([(1, 2), (1, 3), (1, 6)]), (1, 1))
        self.assertEqual(total([(1, 2), (-1, 3), (-1, 6)]), (0, 1))
        self.assertEqual(total([(1, 4), (1, 4), (1, 4)]), (3, 4))
        self.check(total([pair(value) for value in SOME + BIG]), sum(SOME + BIG))
        self.check(total([pair(value) for value in SOME[5:]]), sum(SOME[5:]))

    def test_total_does_not_modify_the_list(self):
        values = [(1, 2), (1, 3)]
        total(values)
        self.assertEqual(values, [(1, 2), (1, 3)])

    def test_whole_part(self):
        wanted = [((7, 2), 3), ((6, 2), 3), ((1, 2), 0), ((0, 1), 0), ((-1, 2), -1), ((-7, 2), -4),
                  ((-3, 1), -3), ((-1, 10**30), -1), ((10**30 - 1, 10**30), 0), ((5, 1), 5)]
        for value, whole in wanted:
            with self.subTest(value=value):
                self.assertEqual(whole_part(value), whole)
                self.assertIs(type(whole_part(value)), int)
        for value in SOME + BIG:
            self.assertEqual(whole_part(pair(value)), value.__floor__())

    def test_the_names_of_the_arguments(self):
        self.assertEqual(fraction(top=2, bottom=4), (1, 2))
        self.assertEqual(plus(two=(1, 2), one=(1, 4)), (3, 4))
        self.assertEqual(minus(two=(1, 2), one=(1, 4)), (-1, 4))
        self.assertEqual(times(two=(1, 2), one=(1, 4)), (1, 8))
        self.assertEqual(over(two=(1, 2), one=(1, 4)), (1, 2))
        self.assertIs(is_less(two=(1, 2), one=(1, 4)), True)
        self.assertEqual(total(values=[(1, 2)]), (1, 2))
        self.assertEqual(whole_part(value=(3, 2)), 1)
        self.assertEqual(in_coins(shares={"a": (3, 1)}), {"a": 3})

    def test_they_are_defined_in_this_file(self):
        for name in ("fraction", "plus", "minus", "times", "over", "is_less", "total", "whole_part", "in_coins"):
            self.assertEqual(getattr(fractions, name).__module__, "parcener.fractions")


def plainly_in_coins(shares):
    """Point 1.2, coin by coin."""
    values = {key: Fraction(*shares[key]) for key in shares}
    coins = {key: values[key].__floor__() for key in shares}
    waiting = list(shares)
    while sum(coins.values()) < sum(values.values()):
        rest = max(values[key] % 1 for key in waiting)
        key = min(key for key in waiting if values[key] % 1 == rest)
        coins[key] += 1
        waiting.remove(key)
    return coins


class InCoins(unittest.TestCase):
    def check(self, shares, wanted):
        """The coins and the order of the keys, and what each result has to be like."""
        before, order = copy.deepcopy(shares), list(shares)
        found = in_coins(shares)
        self.assertEqual((shares, list(shares)), (before, order))
        self.assertIs(type(found), dict)
        self.assertEqual(list(found), sorted(shares))
        self.assertEqual(found, wanted)
        self.assertEqual(sum(found.values()), sum(Fraction(*share) for share in shares.values()))
        for key, many in found.items():
            self.assertIs(type(many), int)
            whole = shares[key][0] // shares[key][1]
            self.assertIn(many, (whole, whole + 1) if shares[key][1] > 1 else (whole,))

    def test_the_example(self):
        self.check({"b": (10, 3), "a": (10, 3), "c": (10, 3)}, {"a": 4, "b": 3, "c": 3})

    def test_no_shares(self):
        self.check({}, {})

    def test_whole_shares(self):
        self.check({"b": (3, 1), "a": (0, 1), "c": (1000000000, 1)}, {"a": 0, "b": 3, "c": 1000000000})
        self.check({"only": (7, 1)}, {"only": 7})

    def test_the_greatest_remainder_is_not_the_greatest_share(self):
        self.check({"a": (31, 3), "b": (2, 3)}, {"a": 10, "b": 1})
        self.check({"a": (2, 3), "b": (31, 3)}, {"a": 1, "b": 10})
        self.check({"a": (1, 3), "b": (32, 3)}, {"a": 0, "b": 11})

    def test_remainders_with_unlike_bottoms(self):
        self.check({"a": (1, 2), "b": (1, 3), "c": (1, 6)}, {"a": 1, "b": 0, "c": 0})
        self.check({"a": (1, 6), "b": (1, 3), "c": (1, 2)}, {"a": 0, "b": 0, "c": 1})
        self.check({"a": (2, 5), "b": (3, 7), "c": (6, 35)}, {"a": 0, "b": 1, "c": 0})
        self.check({"a": (9, 10), "b": (1, 2), "c": (3, 5)}, {"a": 1, "b": 0, "c": 1})

    def test_remainders_that_hardly_differ(self):
        bottom = 10**40
        self.check({"a": (bottom // 2 - 1, bottom), "b": (bottom // 2 + 1, bottom)}, {"a": 0, "b": 1})
        self.check({"a": (bottom // 2 + 1, bottom), "b": (bottom // 2 - 1, bottom)}, {"a": 1, "b": 0})

    def test_equal_remainders_of_unlike_shares(self):
        self.check({"b": (1, 2), "a": (9, 2)}, {"a": 5, "b": 0})
        self.check({"b": (9, 2), "a": (1, 2)}, {"a": 1, "b": 4})

    def test_several_coins_left_over(self):
        shares = {key: (3, 4) for key in "dcba"}
        self.check(shares, {"a": 1, "b": 1, "c": 1, "d": 0})
        shares = {"e": (1, 1), "d": (4, 5), "c": (4, 5), "b": (1, 5), "a": (1, 5)}
        self.check(shares, {"a": 0, "b": 0, "c": 1, "d": 1, "e": 1})

    def test_whole_shares_beside_others(self):
        self.check({"a": (5, 1), "b": (1, 2), "c": (0, 1), "d": (1, 2)}, {"a": 5, "b": 1, "c": 0, "d": 0})

    def test_the_order_of_the_dict_plays_no_part(self):
        shares = {"a": (2, 3), "b": (2, 3), "c": (1, 3), "d": (1, 3)}
        for order in permutations(shares):
            self.check({key: shares[key] for key in order}, {"a": 1, "b": 1, "c": 0, "d": 0})

    def test_tuples_as_keys(self):
        shares = {("1", "al"): (1, 2), ("0", 10): (1, 2), ("0", 2): (1, 2), ("1", "abe"): (1, 2)}
        self.check(shares, {("0", 2): 1, ("0", 10): 1, ("1", "abe"): 0, ("1", "al"): 0})

    def test_strings_and_integers_as_keys(self):
        self.check({"2": (1, 2), "10": (1, 2)}, {"10": 1, "2": 0})
        self.check({2: (1, 2), 10: (1, 2)}, {2: 1, 10: 0})

    def test_against_the_plain_words(self):
        dice = random.Random(12)
        for _ in range(2000):
            keys = dice.sample(["a", "b", "c", "d", "e", "f", "g"], dice.randint(1, 6))
            bottoms = dice.choice([(1, 2), (3,), (2, 3, 6), (2, 3, 4, 5, 7), (8, 12)])
            values = [Fraction(dice.randint(0, 40), dice.choice(bottoms)) for _ in keys]
            lacking = -sum(values) % 1
            values[0] += lacking
            shares = {key: pair(value) for key, value in zip(keys, values)}
            self.check(shares, plainly_in_coins(shares))


if __name__ == "__main__":
    unittest.main()
