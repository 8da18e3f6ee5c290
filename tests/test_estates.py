"""Points 5.1 to 5.3, and parcener/estates.py of the interface."""

import copy
import random
import unittest
from fractions import Fraction
from itertools import permutations, product

from helper import OF_OTHER_KINDS, Equal
from parcener import estates
from parcener.errors import BadEstate, BadWill
from parcener.estates import Estate, paid_debts, standing

NO_AMOUNTS = [value for value in OF_OTHER_KINDS if type(value) is not int] + [
    -1, -2, 1000000001, 10**30, "0", "5", 0.0, 2.5, [1], (1,), Equal()]
NO_NAMES = ["", "Al", "AL", "crown", "abcdefghijklm", "a b", "a_b", "a-b", "al\n", 1, 0, None, True, ["al"], ("al",),
            b"al", {}, Equal()]
THING_NAMES = ["a", "z", "_", "__", "house", "old_house", "_house_", "abcdefghijkl", "____________", "crown",
               "mnopqrstuvwx", "yz"]
NO_THING_NAMES = ["", "abcdefghijklm", "_____________", "a" * 14, "a" * 1000, "House", "HOUSE", "housE", "house1",
                  "1", "0a", "old house", " house", "house ", "old-house", "house.", "house\n", "\u00e4", "\u0131",
                  "`", "{", "@", "[", None, True, 0, 1, b"house", ["house"], ("house",), {}, {"house"}, Equal()]
HOUSE, RING = ("house", 100), ("ring", 7)
ONE, TWO = ("al", 1, 10), ("bo", 2, 20)


class Checks(unittest.TestCase):
    def refused(self, why, coins=5, things=(), debts=()):
        """These arguments are refused with BadEstate(why), as tuples and as lists."""
        for kind in (tuple, list):
            with self.assertRaises(BadEstate) as caught:
                Estate(coins, things=kind(things), debts=kind(debts))
            self.assertEqual(caught.exception.why, why, (coins, things, debts))

    def refused_will(self, will, at):
        """This will is refused with BadWill(at)."""
        with self.assertRaises(BadWill) as caught:
            standing(will)
        self.assertEqual(caught.exception.at, at, will)
        self.assertIs(type(caught.exception.at), int)


class Coins(Checks):
    def test_in_order(self):
        for coins in (0, 1, 2, 101, 999999999, 1000000000):
            self.assertEqual(Estate(coins).coins, coins)
            self.assertIs(type(Estate(coins).coins), int)

    def test_out_of_order(self):
        for coins in NO_AMOUNTS:
            self.refused("coins", coins=coins)


class Things(Checks):
    def test_names(self):
        for name in THING_NAMES:
            estate = Estate(5, things=[(name, 3)])
            self.assertEqual((estate.things(), estate.worth(name)), ([(name, 3)], 3))
            self.assertIs(estate.has(name), True)

    def test_the_length_of_names(self):
        for length in range(1, 13):
            self.assertEqual(Estate(5, things=[("a" * length, 3)]).things(), [("a" * length, 3)])
        for length in (0, 13, 14, 100):
            self.refused("things", things=[("a" * length, 3)])

    def test_the_signs_of_names(self):
        for sign in map(chr, range(400)):
            if "a" <= sign <= "z" or sign == "_":
                self.assertIs(Estate(5, things=[("x" + sign, 3)]).has("x" + sign), True)
            else:
                for name in (sign, "x" + sign, sign + "x", "x" + sign + "x"):
                    self.refused("things", things=[(name, 3)])

    def test_other_names(self):
        for name in NO_THING_NAMES:
            self.refused("things", things=[(name, 3)])

    def test_worths(self):
        for worth in (0, 1, 12, 999999999, 1000000000):
            self.assertEqual(Estate(5, things=[("house", worth)]).worth("house"), worth)
        for worth in NO_AMOUNTS:
            self.refused("things", things=[("house", worth)])

    def test_no_pairs(self):
        for thing in OF_OTHER_KINDS + ["house", ("house",), ("house", 3, 3), ("house", 3, None), (3, "house"),
                                       ["house", 3], {"house": 3}, {"house", 3}, (("house", 3),), "ab", "a1", Equal()]:
            self.refused("things", things=[thing])
            self.refused("things", things=[HOUSE, thing])
            self.refused("things", things=[thing, HOUSE])

    def test_a_name_that_is_there_twice(self):
        self.refused("twice", things=[HOUSE, HOUSE])
        self.refused("twice", things=[HOUSE, ("house", 5)])
        self.refused("twice", things=[HOUSE, RING, ("a", 1), ("ring", 8), ("b", 1)])
        self.refused("twice", things=[("house", 0), ("house", 0)])
        self.assertEqual(Estate(5, things=[HOUSE, ("ring", 100)]).things(), [("house", 100), ("ring", 100)])

    def test_the_first_of_a_bad_thing_and_a_name_that_is_there_twice(self):
        for bad in (None, ("Ring", 3), ("ring", -1), ("ring", True), ("house", -1), ["house", 100]):
            self.refused("twice", things=[HOUSE, HOUSE, bad])
            self.refused("things", things=[HOUSE, bad, HOUSE])
            self.refused("things", things=[bad, HOUSE, HOUSE])

    def test_a_bad_thing_with_a_name_that_is_there_already(self):
        self.refused("things", things=[HOUSE, ("house", -1)])
        self.refused("things", things=[HOUSE, ("house", 100, 1)])
        self.refused("things", things=[HOUSE, ["house", 100]])

    def test_many_things(self):
        names = ["x" + one + two for one in "abcdefghijklmnop" for two in "abcdefghijklmnop"]
        estate = Estate(0, things=[(name, 1000000000) for name in names])
        self.assertEqual(estate.things(), [(name, 1000000000) for name in names])
        self.assertEqual(estate.all_worth(), 256 * 1000000000)


class Debts(Checks):
    def test_in_order(self):
        debts = [("al", 0, 0), ("0", 1000000000, 1000000000), ("abcdefghijkl", 1, 5), ("al", 0, 0), ("al", 0, 3)]
        self.assertEqual(Estate(5, debts=debts).debts(), debts)
        self.assertEqual(Estate(5, debts=tuple(debts)).debts(), debts)

    def test_names(self):
        for name in NO_NAMES:
            self.refused("debts", debts=[(name, 1, 5)])

    def test_ranks_and_amounts(self):
        for number in (0, 1, 999999999, 1000000000):
            self.assertEqual(Estate(5, debts=[("al", number, 5)]).debts(), [("al", number, 5)])
            self.assertEqual(Estate(5, debts=[("al", 5, number)]).debts(), [("al", 5, number)])
        for number in NO_AMOUNTS:
            self.refused("debts", debts=[("al", number, 5)])
            self.refused("debts", debts=[("al", 5, number)])

    def test_no_triples(self):
        for debt in OF_OTHER_KINDS + [("al",), ("al", 1), ("al", 1, 5, 5), ["al", 1, 5], {"al": 1}, (1, "al", 5),
                                      (1, 5, "al"), ("al", "bo", 5), (("al", 1, 5),), "al5", Equal()]:
            self.refused("debts", debts=[debt])
            self.refused("debts", debts=[ONE, debt])
            self.refused("debts", debts=[debt, ONE])


class FirstOfSeveral(Checks):
    def test_all_choices(self):
        parts = {"coins": (5, [-1, True, None]), "things": ([HOUSE, RING], [[HOUSE, None], [None, HOUSE, HOUSE]]),
                 "debts": ([ONE, TWO], [[None], [ONE, ("al", 1)]])}
        for choice in product([False, True], repeat=3):
            wrong = [part for part, is_wrong in zip(parts, choice) if is_wrong]
            for worths in product(*[parts[part][1] for part in wrong]):
                chosen = {part: parts[part][0] for part in parts} | dict(zip(wrong, worths))
                if wrong:
                    self.refused(wrong[0], **chosen)
                else:
                    self.assertEqual(Estate(5, things=chosen["things"], debts=chosen["debts"]).all_worth(), 112)

    def test_a_name_that_is_there_twice(self):
        self.refused("coins", coins=-1, things=[HOUSE, HOUSE], debts=[None])
        self.refused("twice", things=[HOUSE, HOUSE], debts=[None])
        self.refused("twice", things=[HOUSE, HOUSE, None], debts=[None])


class Asking(unittest.TestCase):
    def test_the_defaults(self):
        estate = Estate(101)
        self.assertEqual((estate.coins, estate.things(), estate.debts(), estate.all_worth()), (101, [], [], 101))
        self.assertIs(estate.has("house"), False)

    def test_things_and_debts_are_passed_by_keyword(self):
        self.assertRaises(TypeError, Estate, 5, ())
        self.assertRaises(TypeError, Estate)
        self.assertEqual(Estate(coins=5).coins, 5)

    def test_things_are_ascending(self):
        things = [("ring", 7), ("house", 100), ("a_b", 1), ("ab", 2), ("_", 3), ("a", 9)]
        for kind in (list, tuple):
            for order in permutations(things):
                self.assertEqual(Estate(5, things=kind(order)).things(),
                                 [("_", 3), ("a", 9), ("a_b", 1), ("ab", 2), ("house", 100), ("ring", 7)])

    def test_debts_are_in_their_order(self):
        debts = [("cy", 2, 5), ("al", 9, 1), ("bo", 0, 3), ("al", 9, 1)]
        for order in permutations(debts):
            self.assertEqual(Estate(5, debts=order).debts(), list(order))

    def test_has_and_worth(self):
        estate = Estate(5, things=[HOUSE, RING, ("coin", 0)])
        for name, worth in [("house", 100), ("ring", 7), ("coin", 0)]:
            self.assertIs(estate.has(thing=name), True)
            self.assertEqual(estate.worth(thing=name), worth)
        for name in ("a", "hous", "houses", "", "crown", "al"):
            self.assertIs(estate.has(name), False)

    def test_all_worth(self):
        self.assertEqual(Estate(0).all_worth(), 0)
        self.assertEqual(Estate(5, things=[HOUSE, RING]).all_worth(), 112)
        self.assertEqual(Estate(0, things=[HOUSE]).all_worth(), 100)
        self.assertEqual(Estate(5, things=[HOUSE], debts=[ONE, TWO]).all_worth(), 105)
        self.assertEqual(Estate(1000000000, things=[("a", 1000000000), ("b", 1000000000)]).all_worth(), 3000000000)

    def test_the_arguments_are_not_modified(self):
        things, debts = [RING, HOUSE], [TWO, ONE]
        estate = Estate(5, things=things, debts=debts)
        paid_debts(estate)
        self.assertEqual((things, debts), ([RING, HOUSE], [TWO, ONE]))
        for bad in ([HOUSE, HOUSE], [HOUSE, None]):
            copied = list(bad)
            self.assertRaises(BadEstate, Estate, 5, things=bad, debts=debts)
            self.assertEqual((bad, debts), (copied, [TWO, ONE]))

    def test_later_changes_of_the_arguments_play_no_part(self):
        things, debts = [HOUSE, RING], [ONE, TWO]
        estate = Estate(5, things=things, debts=debts)
        things.clear()
        debts.clear()
        self.assertEqual((estate.things(), estate.debts(), estate.all_worth()), ([HOUSE, RING], [ONE, TWO], 112))

    def test_changes_of_an_answer_play_no_part(self):
        estate = Estate(5, things=[HOUSE, RING], debts=[ONE, TWO])
        for answer in (estate.things(), estate.debts()):
            self.assertIs(type(answer), list)
            answer.append(None)
            answer.reverse()
        self.assertEqual((estate.things(), estate.debts(), estate.all_worth()), ([HOUSE, RING], [ONE, TWO], 112))

    def test_two_estates_do_not_mix(self):
        one, two = Estate(5, things=[HOUSE], debts=[ONE]), Estate(6, things=[RING], debts=[TWO])
        self.assertEqual((one.coins, one.things(), one.debts()), (5, [HOUSE], [ONE]))
        self.assertEqual((two.coins, two.things(), two.debts()), (6, [RING], [TWO]))

    def test_they_are_defined_in_this_file(self):
        for name in ("Estate", "standing", "paid_debts"):
            self.assertEqual(getattr(estates, name).__module__, "parcener.estates")
        for name in ("has", "worth", "things", "debts", "all_worth"):
            self.assertIn(name, vars(Estate))


GIFTS = [("thing", 1, "house", ("al",)), ("sum", 2, 50, ("bo", "al")), ("rest", 3, 4, ("cy", "bo", "al"))]


class Lines(Checks):
    def good(self, line):
        """This is a gift of a will."""
        self.assertEqual(standing([line]), [line])

    def bad(self, line):
        """This is no line of a will, wherever it stands."""
        self.refused_will([line], 0)
        self.refused_will(GIFTS + [line], 3)
        self.refused_will([("revoke",), line, GIFTS[0], None], 1)
        self.refused_will([("revoke",)] * 59 + [line], 59)

    def test_gifts(self):
        for gift in GIFTS:
            self.good(gift)
        self.assertEqual(standing(GIFTS), GIFTS)

    def test_no_lines(self):
        self.assertEqual(standing([]), [])
        self.assertEqual(standing(()), [])

    def test_numbers(self):
        for number in (0, 1, 999999999, 1000000000):
            self.good(("thing", number, "house", ("al",)))
            self.good(("sum", number, 50, ("al",)))
            self.good(("rest", number, 4, ("al",)))
            self.assertEqual(standing([("revoke", number)]), [])
        for number in NO_AMOUNTS:
            self.bad(("thing", number, "house", ("al",)))
            self.bad(("sum", number, 50, ("al",)))
            self.bad(("rest", number, 4, ("al",)))
            self.bad(("revoke", number))

    def test_things(self):
        for name in THING_NAMES:
            self.good(("thing", 1, name, ("al",)))
        for name in NO_THING_NAMES + [HOUSE]:
            self.bad(("thing", 1, name, ("al",)))

    def test_sums(self):
        for amount in (0, 1, 999999999, 1000000000):
            self.good(("sum", 1, amount, ("al",)))
        for amount in NO_AMOUNTS + ["house"]:
            self.bad(("sum", 1, amount, ("al",)))

    def test_weights(self):
        for weight in (1, 2, 999999999, 1000000000):
            self.good(("rest", 1, weight, ("al",)))
        for weight in NO_AMOUNTS + [0, "house"]:
            self.bad(("rest", 1, weight, ("al",)))

    def test_the_number_of_takers(self):
        names = ("al", "bo", "cy", "di", "ed", "fay", "gus")
        for word, given in [("thing", "house"), ("sum", 0), ("rest", 1)]:
            for many in range(1, 6):
                self.good((word, 1, given, names[:many]))
            for many in (0, 6, 7):
                self.bad((word, 1, given, names[:many]))

    def test_the_same_taker_twice(self):
        self.good(("sum", 1, 5, ("al", "al", "bo", "al", "al")))
        self.bad(("sum", 1, 5, ("al",) * 6))

    def test_the_names_of_takers(self):
        for word, given in [("thing", "house"), ("sum", 0), ("rest", 1)]:
            self.good((word, 1, given, ("a", "0", "abcdefghijkl", "zoe9")))
            for name in NO_NAMES:
                self.bad((word, 1, given, (name,)))
                self.bad((word, 1, given, ("al", name)))
                self.bad((word, 1, given, ("al", "bo", "cy", "di", name)))

    def test_takers_of_other_kinds(self):
        for word, given in [("thing", "house"), ("sum", 0), ("rest", 1)]:
            for takers in [["al"], ["al", "bo"], {"al"}, {"al": 1}, "al", "a", b"al", None, 1, True, (("al",),),
                           [("al",)], Equal()]:
                self.bad((word, 1, given, takers))

    def test_words(self):
        for word in ["", "Thing", "things", "SUM", "sums", "rests", "gift", "revoked", "stock", None, 1, True, b"sum",
                     ["sum"], ("sum",), Equal()]:
            for given in ("house", 5):
                self.bad((word, 1, given, ("al",)))
            self.bad((word, 1))
            self.bad((word,))

    def test_what_another_word_gives(self):
        self.bad(("thing", 1, 5, ("al",)))
        self.bad(("sum", 1, "house", ("al",)))
        self.bad(("rest", 1, "house", ("al",)))
        self.bad(("revoke", 1, 5, ("al",)))
        self.bad(("revoke", 1, "house", ("al",)))

    def test_tuples_of_other_lengths(self):
        for gift in GIFTS:
            for length in range(4):
                self.bad(gift[:length])
            for more in (None, 1, "al", ("al",)):
                self.bad(gift + (more,))
        for more in (None, 1, "al", ("al",)):
            self.bad(("revoke", 1, more))
            self.bad(("revoke", 1, more, more))
            self.bad(("revoke", 1, more, more, more))

    def test_other_kinds(self):
        for line in OF_OTHER_KINDS + ["revoke", "thing", "sum", {"revoke"}, {"revoke": 1}, (("revoke",),), Equal()]:
            self.bad(line)
        for line in GIFTS + [("revoke",), ("revoke", 1)]:
            self.bad(list(line))
            self.bad((line,))
            self.bad({part: True for part in line})


class Standing(Checks):
    def test_the_number_of_lines(self):
        gifts = [("sum", number, 5, ("al",)) for number in range(62)]
        self.assertEqual(standing(gifts[:60]), gifts[:60])
        self.assertEqual(standing([("revoke",)] * 60), [])
        self.refused_will(gifts[:61], 60)
        self.refused_will(gifts, 60)
        self.refused_will([("revoke",)] * 61, 60)
        self.refused_will([("revoke",)] * 500, 60)

    def test_a_will_that_is_too_long_is_refused_whatever_its_lines_are(self):
        self.refused_will([None] * 61, 60)
        self.refused_will([None] + GIFTS * 20, 60)
        self.refused_will([None] + [("revoke",)] * 59, 0)

    def test_the_first_index_of_several(self):
        self.refused_will([GIFTS[0], None, GIFTS[1], None], 1)
        self.refused_will([None, None], 0)
        self.refused_will(GIFTS + [("revoke",), ("sum", 1, -1, ("al",)), ("thing",)], 4)

    def test_a_line_that_would_be_taken_away_is_read(self):
        self.refused_will([None, ("revoke",)], 0)
        self.refused_will([("sum", 1, -1, ("al",)), ("revoke", 1)], 0)

    def test_a_thing_that_the_estate_may_not_have(self):
        gift = ("thing", 1, "unicorn", ("al",))
        self.assertEqual(standing([gift]), [gift])

    def test_things_and_takers_may_be_named_by_several_gifts(self):
        gifts = [("thing", 5, "house", ("al",)), ("thing", 4, "house", ("al",)), ("thing", 6, "house", ("bo",))]
        self.assertEqual(standing(gifts), gifts)

    def test_a_gift_takes_away_earlier_gifts_with_its_number(self):
        for one, two in product(GIFTS, GIFTS):
            one, two = (one[0], 7) + one[2:], (two[0], 7) + two[2:]
            self.assertEqual(standing([one, two]), [two])
            self.assertEqual(standing([two, one]), [one])
            self.assertEqual(standing([one, two, one]), [one])
            self.assertEqual(standing([one, GIFTS[0], two]), [GIFTS[0], two])

    def test_gifts_with_other_numbers_stand(self):
        self.assertEqual(standing([("sum", 1, 5, ("al",)), ("sum", 10, 5, ("al",)), ("sum", 0, 5, ("al",))]),
                         [("sum", 1, 5, ("al",)), ("sum", 10, 5, ("al",)), ("sum", 0, 5, ("al",))])

    def test_revoke_a_number(self):
        for gift in GIFTS:
            others = [other for other in GIFTS if other != gift]
            self.assertEqual(standing(GIFTS + [("revoke", gift[1])]), others)
            self.assertEqual(standing([("revoke", gift[1])] + GIFTS), GIFTS)
            self.assertEqual(standing([gift, ("revoke", gift[1]), gift]), [gift])
            self.assertEqual(standing([gift, ("revoke", gift[1]), ("revoke", gift[1])]), [])
        self.assertEqual(standing(GIFTS + [("revoke", 9)]), GIFTS)
        self.assertEqual(standing(GIFTS + [("revoke", 0)]), GIFTS)
        self.assertEqual(standing([("sum", 0, 1, ("al",))] + GIFTS + [("revoke", 0)]), GIFTS)

    def test_revoke_all(self):
        self.assertEqual(standing(GIFTS + [("revoke",)]), [])
        self.assertEqual(standing([("revoke",)] + GIFTS), GIFTS)
        self.assertEqual(standing(GIFTS[:2] + [("revoke",)] + GIFTS[2:]), GIFTS[2:])
        self.assertEqual(standing(GIFTS + [("revoke",)] + GIFTS[::-1]), GIFTS[::-1])
        self.assertEqual(standing([("revoke",), ("revoke",)]), [])

    def test_what_took_away_may_be_taken_away(self):
        one, two = ("sum", 7, 1, ("al",)), ("sum", 7, 2, ("al",))
        self.assertEqual(standing([one, two, ("revoke", 7)]), [])
        self.assertEqual(standing([one, two, ("revoke",)]), [])
        self.assertEqual(standing([one, ("revoke", 7), two]), [two])

    def test_all_orders(self):
        lines = [("sum", 1, 10, ("al",)), ("rest", 1, 5, ("bo",)), ("thing", 2, "house", ("al",)),
                 ("sum", 2, 3, ("cy",)), ("revoke", 1), ("revoke",)]
        for many in range(len(lines) + 1):
            for will in permutations(lines, many):
                self.assertEqual(standing(list(will)), self.plainly(will), will)

    def plainly(self, will):
        """The gifts behind which no line takes them away."""
        return [line for at, line in enumerate(will) if line[0] != "revoke"
                and not any(len(later) == 1 or later[1] == line[1] for later in will[at + 1:])]

    def test_many_wills(self):
        dice = random.Random(52)
        for _ in range(500):
            will = []
            for _ in range(dice.randint(0, 60)):
                number = dice.randint(0, 12)
                will.append(dice.choice([("thing", number, "house", ("al",)), ("sum", number, 5, ("al", "bo")),
                                         ("rest", number, 1, ("cy",)), ("revoke", number)]))
                if dice.random() < 0.04:
                    will.append(("revoke",))
            will = will[:60]
            self.assertEqual(standing(will), self.plainly(will))

    def test_the_argument_is_not_modified(self):
        will = GIFTS + [("revoke", 1), ("sum", 2, 3, ("al",))]
        before = copy.deepcopy(will)
        found = standing(will)
        self.assertIs(type(found), list)
        self.assertEqual(found, [GIFTS[2], ("sum", 2, 3, ("al",))])
        found.clear()
        self.assertEqual(will, before)
        self.assertEqual(standing(will=will), [GIFTS[2], ("sum", 2, 3, ("al",))])
        gifts = list(GIFTS)
        standing(gifts).clear()
        self.assertEqual(gifts, GIFTS)


def plainly_paid(worth, debts):
    """Point 5.3, rank by rank."""
    left, paid = Fraction(worth), {}
    for rank in sorted({debt[1] for debt in debts}):
        places = [at for at, debt in enumerate(debts) if debt[1] == rank]
        due = sum(debts[at][2] for at in places)
        for at in places:
            paid[at] = Fraction(debts[at][2]) if due <= left else debts[at][2] * left / due
        left = max(left - due, Fraction(0))
    return [(debt[0], (paid[at].numerator, paid[at].denominator)) for at, debt in enumerate(debts)], left


class Paying(unittest.TestCase):
    def check(self, coins, debts, wanted, left, things=()):
        """What the debts are paid, in any order of them; the fractions are in the order of the debts."""
        for order in permutations(list(zip(debts, wanted))) if len(debts) < 5 else [list(zip(debts, wanted))]:
            estate = Estate(coins, things=things, debts=[debt for debt, _ in order])
            found = paid_debts(estate)
            self.assertEqual(found, ([(debt[0], share) for debt, share in order], left))
            self.assertEqual([type(part) for part in found], [list, int])
            self.assertIs(type(found), tuple)
            for pair in found[0]:
                self.assertEqual((type(pair), type(pair[1])), (tuple, tuple))
                self.assertEqual([type(value) for value in pair[1]], [int, int])
            self.assertEqual(sum(Fraction(*share) for _, share in found[0]) + found[1], estate.all_worth())

    def test_no_debts(self):
        self.check(100, [], [], 100)
        self.check(0, [], [], 0)
        self.check(3, [], [], 110, [HOUSE, RING])

    def test_debts_that_are_paid_in_full(self):
        self.check(100, [("al", 1, 30)], [(30, 1)], 70)
        self.check(100, [("al", 1, 30), ("bo", 1, 20), ("cy", 2, 10)], [(30, 1), (20, 1), (10, 1)], 40)
        self.check(100, [("al", 1, 30), ("bo", 2, 70)], [(30, 1), (70, 1)], 0)

    def test_the_worth_of_things_pays(self):
        self.check(3, [("al", 1, 50)], [(50, 1)], 60, [HOUSE, RING])
        self.check(0, [("al", 1, 107)], [(107, 1)], 0, [HOUSE, RING])
        self.check(0, [("al", 1, 108)], [(107, 1)], 0, [HOUSE, RING])

    def test_too_little_for_the_only_rank(self):
        self.check(10, [("al", 1, 30)], [(10, 1)], 0)
        self.check(10, [("al", 1, 20), ("bo", 1, 10)], [(20, 3), (10, 3)], 0)
        self.check(1, [("al", 4, 1), ("bo", 4, 1), ("cy", 4, 1)], [(1, 3)] * 3, 0)
        self.check(7, [("al", 1, 5), ("bo", 1, 0), ("cy", 1, 9)], [(5, 2), (0, 1), (9, 2)], 0)

    def test_ranks_are_ascending(self):
        self.check(50, [("al", 2, 30), ("bo", 1, 30)], [(20, 1), (30, 1)], 0)
        self.check(50, [("al", 10, 30), ("bo", 9, 30)], [(20, 1), (30, 1)], 0)
        self.check(50, [("al", 1000000000, 30), ("bo", 0, 30)], [(20, 1), (30, 1)], 0)

    def test_later_ranks_get_nothing(self):
        self.check(50, [("al", 1, 30), ("bo", 2, 30), ("cy", 3, 5), ("di", 4, 5)],
                   [(30, 1), (20, 1), (0, 1), (0, 1)], 0)
        self.check(30, [("al", 1, 30), ("bo", 2, 30), ("cy", 3, 5)], [(30, 1), (0, 1), (0, 1)], 0)
        self.check(0, [("al", 1, 30), ("bo", 2, 30)], [(0, 1), (0, 1)], 0)

    def test_a_small_debt_behind_a_great_one_gets_nothing(self):
        self.check(50, [("al", 1, 51), ("bo", 2, 1)], [(50, 1), (0, 1)], 0)

    def test_several_ranks_out_of_order(self):
        self.check(100, [("di", 7, 40), ("al", 3, 50), ("cy", 7, 80), ("bo", 0, 20)],
                   [(10, 1), (50, 1), (20, 1), (20, 1)], 0)

    def test_one_creditor_with_several_debts(self):
        self.check(35, [("al", 1, 30), ("al", 2, 10), ("al", 2, 10)], [(30, 1), (5, 2), (5, 2)], 0)
        self.check(10, [("al", 1, 10), ("al", 1, 10)], [(5, 1), (5, 1)], 0)

    def test_debts_of_nothing(self):
        self.check(10, [("al", 1, 0)], [(0, 1)], 10)
        self.check(0, [("al", 1, 0), ("bo", 1, 0)], [(0, 1), (0, 1)], 0)
        self.check(10, [("al", 1, 0), ("bo", 1, 0), ("cy", 2, 4)], [(0, 1), (0, 1), (4, 1)], 6)
        self.check(10, [("al", 1, 15), ("bo", 2, 0), ("cy", 2, 0), ("di", 3, 1)], [(10, 1), (0, 1), (0, 1), (0, 1)], 0)
        self.check(0, [("al", 0, 0), ("bo", 1, 5)], [(0, 1), (0, 1)], 0)

    def test_great_amounts(self):
        most = 1000000000
        self.check(most, [("al", 1, most), ("bo", 1, most), ("cy", 1, most)], [(most, 3)] * 3, 0)
        self.check(most, [("al", 1, most), ("bo", 2, most)], [(most, 1), (most, 1)], most,
                   [("a", most), ("b", most)])

    def test_many_debts(self):
        debts = [("al", rank, 3) for rank in range(3000, 0, -1)]
        paid, left = paid_debts(Estate(4000, debts=debts))
        self.assertEqual(paid, [("al", (0, 1))] * 1666 + [("al", (1, 1))] + [("al", (3, 1))] * 1333)
        self.assertEqual(left, 0)

    def test_asking_twice(self):
        estate = Estate(10, debts=[("al", 1, 20), ("bo", 1, 20)])
        first = paid_debts(estate)
        first[0].clear()
        self.assertEqual(paid_debts(estate=estate), ([("al", (5, 1)), ("bo", (5, 1))], 0))
        self.assertEqual((estate.debts(), estate.coins), ([("al", 1, 20), ("bo", 1, 20)], 10))

    def test_against_the_plain_words(self):
        dice = random.Random(53)
        for _ in range(2000):
            things = [(name, dice.randint(0, 20)) for name in "abc"[:dice.randint(0, 3)]]
            debts = [(dice.choice(["al", "bo", "cy"]), dice.randint(0, 3), dice.choice([0, dice.randint(1, 30)]))
                     for _ in range(dice.randint(0, 6))]
            estate = Estate(dice.randint(0, 60), things=things, debts=debts)
            found = paid_debts(estate)
            self.assertEqual(found, plainly_paid(estate.all_worth(), debts), (estate.all_worth(), debts))
            self.assertIs(type(found[1]), int)


if __name__ == "__main__":
    unittest.main()
