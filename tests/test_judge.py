"""Points 7.1 to 7.3, and parcener/judge.py of the interface."""

import copy
import random
import unittest
from itertools import permutations

from helper import OF_OTHER_KINDS, Equal, PlainCase, born, died, made, random_case, shown
from parcener import judge as judging
from parcener.cases import Case
from parcener.division import accepts, divide
from parcener.errors import BadPaper
from parcener.estates import Estate
from parcener.judge import judge
from parcener.papers import make_paper
from parcener.rules import Rules

AL_DIED = ("died", "al", 1)
LOOP = []
LOOP.append(LOOP)
DEEP = ()
for _ in range(1000):
    DEEP = (DEEP,)
# No value of these is a paper, a line, a row, a node, a kind, the live or gone parts (without the empty tuple) or a
# number. True and False may stand for numbers.
JUNK = [value for value in OF_OTHER_KINDS if not isinstance(value, (bool, int)) and value != ()] + [
    -2, -10**30, 4, 10**30, 2.5, float("nan"), "Al", "takes ", "gift", "descent", ["takes"], ("takes",), (None,), ((),),
    ((), ()), (("al", 0),), ((("al", 0), "takes", (), ()), None), [("al", 0)], {("al", 0)}, LOOP, DEEP, (LOOP,),
    frozenset(), bytearray(b"al"), range(3), iter(()), "a" * 10000, "\ud800", 1j, Ellipsis, NotImplemented,
    ValueError()]

TAKES_DI, TAKES_ED = (("di", -1), "takes", (), ()), (("ed", -1), "takes", (), ())
GONE_FAY = (("fay", -1), "gone", (), ())
TAKES_BO = (("bo", -1), "takes", (), ())
DIVIDES_CY = (("cy", -1), "divides", (("di", -1), ("ed", -1)), (("fay", -1),))
DIVIDES_CY_ABOVE = (("cy", 0), "divides", (("di", -1), ("ed", -1)), (("fay", -1),))
DIVIDES_AL = (("al", 0), "divides", (("bo", -1), ("cy", -1)), ())
DESCENT = (TAKES_BO, TAKES_DI, TAKES_ED, GONE_FAY, DIVIDES_CY, DIVIDES_AL)
FAMILY = born("al: bo cy, cy: di ed fay") + died("cy fay")


def case_of(facts, will=(), **book):
    """A case of al, who has died on the day 1, with an estate of 100 coins."""
    return Case("al", facts + [AL_DIED], rules=Rules(**book), estate=Estate(100), will=will)


def changed(rows, at, *instead):
    """These rows with others instead of the one at this place."""
    return rows[:at] + instead + rows[at + 1:]


def with_rows(line, rows):
    """This line with other rows."""
    return line[:-1] + (rows,)


class Checks(unittest.TestCase):
    def refused(self, case, paper):
        """The judge does not accept this paper."""
        with self.assertRaises(BadPaper) as caught:
            judge(case, paper)
        self.assertIs(type(caught.exception.why), str)
        self.assertIs(accepts(case, paper), False)

    def accepted(self, case, paper):
        """The judge accepts this paper, and its division is that of the program's own paper."""
        found = judge(case, paper)
        self.assertIs(accepts(case, paper), True)
        self.assertEqual(shown(found), shown(divide(case)))
        self.assertEqual(shown(found), shown(judge(case, make_paper(case))))

    def no_way(self, case, paper):
        """The judge refuses this paper, or it shows the division all the same; nothing else happens."""
        try:
            found = judge(case, paper)
        except BadPaper:
            return
        self.assertEqual(shown(found), shown(divide(case)))


class Forms(Checks):
    will = [("sum", 1, 30, ("bo",)), ("thing", 7, "ring", ("cy",)), ("sum", 3, 10, ("fay",))]
    case = case_of(FAMILY, will)
    paper = (("gift", 1, "person", ()), ("gift", 7, "stock", (TAKES_DI, TAKES_ED, GONE_FAY, DIVIDES_CY_ABOVE)),
             ("gift", 3, "lapse", ((("fay", 0), "gone", (), ()),)), ("descent", 0, DESCENT))

    def line(self, at, line):
        """The paper with another line."""
        return changed(self.paper, at, line)

    def test_the_paper_itself(self):
        self.assertEqual(make_paper(self.case), self.paper)
        self.accepted(self.case, self.paper)

    def test_values_of_other_kinds_as_the_paper(self):
        for value in JUNK + [(), True, False, 0, 1, list(self.paper), dict(enumerate(self.paper)), repr(self.paper)]:
            self.refused(self.case, value)
            self.refused(case_of([]), value)

    def test_values_of_other_kinds_as_a_line(self):
        for at in range(4):
            for value in JUNK + [(), True, False, 0, 1, list(self.paper[at]), repr(self.paper[at])]:
                self.refused(self.case, self.line(at, value))

    def test_another_number_of_lines(self):
        for paper in (self.paper[1:], self.paper[:-1], self.paper[:1] + self.paper[2:], self.paper + self.paper[-1:],
                      self.paper[:1] + self.paper, self.paper[-1:], self.paper[:1], self.paper + self.paper,
                      self.paper + (None,), self.paper[:-1] + ((),) + self.paper[-1:]):
            self.refused(self.case, paper)
        own = make_paper(case_of([]))
        for paper in (own + own, (("gift", 1, "person", ()),) + own, self.paper):
            self.refused(case_of([]), paper)

    def test_lines_in_another_order(self):
        for paper in permutations(self.paper):
            if paper != self.paper:
                self.refused(self.case, paper)

    def test_lines_of_another_length(self):
        for at, line in enumerate(self.paper):
            for other in (line[1:], line[:-1], line + ((),), line + line[-1:], line[:1] + line, line[:1],
                          line + (None,)):
                self.refused(self.case, self.line(at, other))

    def test_the_words_of_lines(self):
        for at, line in enumerate(self.paper):
            for word in JUNK + ["Gift", "gifts", "GIFT", "Descent", "descents", "", "sum", "thing", "person", (), 0]:
                if word != line[0]:
                    self.refused(self.case, self.line(at, (word,) + line[1:]))

    def test_a_wrong_number(self):
        for at, line in enumerate(self.paper[:-1]):
            for number in (0, 2, 4, 6, 8, -1, line[1] + 1, line[1] - 1, -line[1], str(line[1]), 10**30):
                self.refused(self.case, self.line(at, line[:1] + (number,) + line[2:]))
            for number in JUNK:
                self.refused(self.case, self.line(at, line[:1] + (number,) + line[2:]))
        swapped = (self.paper[0][:1] + (3,) + self.paper[0][2:], self.paper[1],
                   self.paper[2][:1] + (1,) + self.paper[2][2:], self.paper[3])
        self.refused(self.case, swapped)

    def test_each_wrong_how(self):
        for at, line in enumerate(self.paper[:-1]):
            others = [how for how in ("person", "stock", "lapse") if how != line[2]]
            for how in others + JUNK + ["Person", "", "lapses", " stock", "heads", "stocks", "gone", "takes", (), 0, 1]:
                self.refused(self.case, self.line(at, line[:2] + (how,) + line[3:]))

    def test_values_of_other_kinds_as_the_rows(self):
        for at, line in enumerate(self.paper):
            others = [list(line[-1]), dict(enumerate(line[-1])), iter(line[-1]), line[-1] + (None,), 0, 1, True, False]
            for rows in [value for value in JUNK if value != ((),)] + others:
                self.refused(self.case, self.line(at, with_rows(line, rows)))

    def everywhere(self, values, change):
        """Each row of the paper is changed with each of these values; the judge refuses all that comes from it."""
        for at, line in enumerate(self.paper):
            for place, row in enumerate(line[-1]):
                for value in values:
                    rows = changed(line[-1], place, change(row, value))
                    self.refused(self.case, self.line(at, with_rows(line, rows)))

    def test_values_of_other_kinds_as_a_row(self):
        self.everywhere(JUNK + [(), 0, 1, True, False], lambda row, value: value)
        self.everywhere([None], lambda row, value: list(row))
        self.everywhere([1, 2, 3], lambda row, value: row[:value])
        self.everywhere([None, (), ("di", -1)], lambda row, value: row + (value,))

    def test_values_of_other_kinds_as_a_node(self):
        self.everywhere(JUNK + [(), 0, 1, True, False], lambda row, value: (value,) + row[1:])
        self.everywhere([None], lambda row, value: (list(row[0]),) + row[1:])
        self.everywhere([0, -1, None], lambda row, value: (row[0] + (value,),) + row[1:])
        self.everywhere([None], lambda row, value: (row[0][:1],) + row[1:])
        self.everywhere([None], lambda row, value: (row[0][::-1],) + row[1:])

    def test_names_that_are_no_text(self):
        values = JUNK + [(), 0, 1, True, False, "", "crown", "AL", "a l", "abcdefghijklm"]
        self.everywhere([value for value in values if value != "al"],
                        lambda row, value: ((value, row[0][1]),) + row[1:])

    def test_rows_that_are_no_integers(self):
        values = [value for value in JUNK if not isinstance(value, int)] + [(), "0", "-1", -0.5, -1.5]
        self.everywhere(values, lambda row, value: ((row[0][0], value),) + row[1:])
        self.everywhere([None], lambda row, value: ((row[0][0], float(row[0][1])),) + row[1:])

    def test_values_of_other_kinds_as_a_kind(self):
        self.everywhere(JUNK + [(), 0, 1, True, False, "Takes", "DIVIDES", "", "go", "person", "lapse", b"takes"],
                        lambda row, value: (row[0], value) + row[2:])

    def test_values_of_other_kinds_as_live_and_gone(self):
        self.everywhere(JUNK + [0, 1, True, False], lambda row, value: row[:2] + (value,) + row[3:])
        self.everywhere(JUNK + [0, 1, True, False], lambda row, value: row[:3] + (value,))
        self.everywhere([None], lambda row, value: row[:2] + (list(row[2]), row[3]))
        self.everywhere([None], lambda row, value: row[:3] + (list(row[3]),))

    def test_values_of_other_kinds_among_live_and_gone(self):
        for value in JUNK + [(), 0, 1, True, False, "di", ["di", -1], ("di",), ("di", -1, 0), ("di", -1.0), (-1, "di"),
                             ("di", "-1"), ("di", None), (None, -1), ([], -1)]:
            self.everywhere([value], lambda row, value: row[:2] + (row[2] + (value,), row[3]))
            self.everywhere([value], lambda row, value: row[:3] + (row[3] + (value,),))
            cy = (("cy", -1), "divides", (value, ("ed", -1)), (("fay", -1),))
            self.refused(self.case, self.line(3, with_rows(self.paper[3], changed(DESCENT, 4, cy))))
            cy = (("cy", -1), "divides", (("di", -1), ("ed", -1)), (value,))
            self.refused(self.case, self.line(3, with_rows(self.paper[3], changed(DESCENT, 4, cy))))

    def places(self, value):
        """All that comes from a tuple of tuples when one thing within it is something equal to everything."""
        yield Equal()
        if isinstance(value, tuple):
            for at, part in enumerate(value):
                for other in self.places(part):
                    yield changed(value, at, other)

    def test_values_that_claim_to_be_equal(self):
        for paper in self.places(self.paper):
            self.no_way(self.case, paper)

    def test_numbers_that_are_no_integers(self):
        for at, line in enumerate(self.paper[:-1]):
            self.no_way(self.case, self.line(at, line[:1] + (float(line[1]),) + line[2:]))

    def test_further_rows_of_nodes_whose_names_are_none(self):
        for name in ("", "Al", "AL", "crown", "a l", "abcdefghijklm", "a_b", "\ud800"):
            for row in (-1, 0, 1):
                more = ((name, row), "gone" if row > 0 else "takes", (), ())
                self.no_way(self.case, self.line(3, ("descent", 0, DESCENT + (more,))))

    def test_true_and_false_for_numbers(self):
        self.no_way(self.case, self.line(0, ("gift", True, "person", ())))
        self.no_way(self.case, self.line(3, ("descent", False, DESCENT)))
        self.no_way(self.case, self.line(2, ("gift", 3, "lapse", ((("fay", False), "gone", (), ()),))))


class Following(Checks):
    case = case_of(FAMILY)

    def refused_rows(self, *rows):
        """No paper has these rows in its line for descent."""
        self.refused(self.case, (("descent", 0, rows),))

    def accepted_rows(self, *rows):
        """A paper may have these rows in its line for descent."""
        self.accepted(self.case, (("descent", 0, rows),))

    def test_the_rows_themselves(self):
        self.accepted_rows(*DESCENT)

    def test_a_row_twice(self):
        for at, row in enumerate(DESCENT):
            self.refused_rows(*DESCENT[:at + 1], row, *DESCENT[at + 1:])
            self.refused_rows(*DESCENT, row)
        self.refused_rows(*DESCENT, *DESCENT)

    def test_a_node_twice_with_parts_in_another_order(self):
        self.refused_rows(*DESCENT, (("cy", -1), "divides", (("ed", -1), ("di", -1)), (("fay", -1),)))

    def test_a_row_ahead_of_a_part_of_it(self):
        for rows in permutations(DESCENT):
            place = {row[0]: at for at, row in enumerate(rows)}
            if all(place[part] < place[row[0]] for row in rows for part in row[2] + row[3]):
                self.accepted_rows(*rows)
            else:
                self.refused_rows(*rows)

    def test_a_row_that_is_missing(self):
        for at in range(len(DESCENT)):
            self.refused_rows(*DESCENT[:at], *DESCENT[at + 1:])
        self.refused_rows()

    def test_parts_in_another_order(self):
        for cy in permutations((("di", -1), ("ed", -1))):
            for al in permutations((("bo", -1), ("cy", -1))):
                self.accepted_rows(TAKES_BO, TAKES_DI, TAKES_ED, GONE_FAY, (("cy", -1), "divides", cy, (("fay", -1),)),
                                   (("al", 0), "divides", al, ()))

    def test_gone_parts_in_another_order(self):
        case = case_of(born("al: bo cy di") + died("cy di"))
        for parts in permutations((("cy", -1), ("di", -1))):
            self.accepted(case, (("descent", 0, (
                TAKES_BO, (("cy", -1), "gone", (), ()), (("di", -1), "gone", (), ()),
                (("al", 0), "divides", (("bo", -1),), parts))),))

    def cy(self, live, gone, kind="divides"):
        """The rows with other parts of cy."""
        return changed(DESCENT, 4, (("cy", -1), kind, tuple((name, -1) for name in live.split()),
                                    tuple((name, -1) for name in gone.split())))

    def test_a_part_is_left_out(self):
        for live, gone in [("di", "fay"), ("ed", "fay"), ("di ed", ""), ("di", ""), ("", "fay"), ("", "")]:
            self.refused_rows(*self.cy(live, gone))
            self.refused_rows(*self.cy(live, gone, "gone"))
        self.accepted_rows(*self.cy("di ed", "fay"))

    def test_a_part_is_doubled(self):
        for live, gone in [("di ed ed", "fay"), ("di di ed", "fay"), ("di ed", "fay fay"), ("di ed di", "fay"),
                           ("di ed di ed", "fay fay"), ("di di", "fay"), ("ed ed", "fay")]:
            self.refused_rows(*self.cy(live, gone))

    def test_a_part_is_in_the_wrong_one(self):
        for live, gone in [("di ed fay", ""), ("di", "ed fay"), ("", "di ed fay"), ("fay", "di ed"), ("di fay", "ed"),
                           ("di ed fay", "fay"), ("di ed", "di fay")]:
            self.refused_rows(*self.cy(live, gone))
            self.refused_rows(*self.cy(live, gone, "gone"))

    def test_a_part_of_another_node(self):
        self.refused_rows(*self.cy("di ed bo", "fay"))
        self.refused_rows(*self.cy("bo ed", "fay"))
        self.refused_rows((("zoe", -1), "takes", (), ()), *self.cy("di ed zoe", "fay"))
        self.refused_rows((("cy2", -1), "takes", (), ()), *self.cy("di ed", "fay cy2"))

    def test_a_part_in_another_row(self):
        for row in (0, 1, -2):
            cy = (("cy", -1), "divides", (("di", row), ("ed", -1)), (("fay", -1),))
            self.refused_rows((("di", row), "takes", (), ()), *changed(DESCENT, 4, cy))
        self.refused_rows((("fay", 0), "gone", (), ()), *changed(DESCENT, 4, (
            ("cy", -1), "divides", (("di", -1), ("ed", -1)), (("fay", 0),))))

    def test_the_kind_takes(self):
        for kind in ("divides", "gone"):
            self.refused_rows(*changed(DESCENT, 0, (("bo", -1), kind, (), ())))
            self.refused_rows(*DESCENT, (("zoe", -1), kind, (), ()))
        self.refused_rows(*self.cy("di ed", "fay", "takes"))
        self.refused_rows(*self.cy("", "", "takes"))
        self.refused_rows(*changed(DESCENT, 3, (("fay", -1), "takes", (), ())))
        self.refused_rows(*DESCENT[:-1], (("al", 0), "takes", (), ()))

    def test_the_kind_takes_with_parts(self):
        case = case_of(born("al: bo, bo: cy") + [("renounced", "di")] + born("bo: di"))
        below = ((("cy", -1), "takes", (), ()), (("di", -1), "gone", (), ()))
        al = (("al", 0), "divides", (("bo", -1),), ())
        self.accepted(case, (("descent", 0, (*below, (("bo", -1), "takes", (), ()), al)),))
        for live, gone in [((("cy", -1),), ()), ((), (("di", -1),)), ((("cy", -1),), (("di", -1),)),
                           ((("bo", -1),), ())]:
            self.refused(case, (("descent", 0, (*below, (("bo", -1), "takes", live, gone), al)),))
            self.refused(case, (("descent", 0, (*below, (("bo", -1), "divides", live, gone), al)),))

    def test_somebody_who_survives_does_not_divide(self):
        case = case_of(born("al: bo, bo: cy"))
        rows = ((("cy", -1), "takes", (), ()), (("bo", -1), "divides", (("cy", -1),), ()),
                (("al", 0), "divides", (("bo", -1),), ()))
        self.refused(case, (("descent", 0, rows),))

    def test_the_kind_gone(self):
        self.refused_rows(*self.cy("di ed", "fay", "gone"))
        self.refused_rows(*changed(DESCENT, 3, (("fay", -1), "divides", (), ())))
        self.refused_rows(*DESCENT[:-1], (("al", 0), "gone", (("bo", -1), ("cy", -1)), ()))
        self.refused_rows(*DESCENT[:-1], (("al", 0), "gone", (), (("bo", -1), ("cy", -1))))
        case = case_of(born("al: bo, bo: cy") + died("bo cy"))
        rows = ((("cy", -1), "gone", (), ()), (("bo", -1), "gone", (), (("cy", -1),)),
                (("al", 0), "gone", (), (("bo", -1),)))
        above = tuple((("al", row), "gone", (), ()) for row in (1, 2, 3))
        self.accepted(case, (("descent", -1, rows + above),))
        for at, parts in [(1, (("cy", -1),)), (2, (("bo", -1),))]:
            self.refused(case, (("descent", -1, changed(rows, at, (rows[at][0], "divides", (), parts)) + above),))
            self.refused(case, (("descent", -1, changed(rows, at, (rows[at][0], "gone", parts, ())) + above),))
            self.refused(case, (("descent", -1, changed(rows, at, (rows[at][0], "divides", parts, ())) + above),))
        self.refused(case, (("descent", 0, changed(rows, 2, (("al", 0), "divides", (("bo", -1),), ()))),))

    def test_the_rows_of_other_lines_do_not_count(self):
        will = [("sum", 1, 5, ("cy",)), ("sum", 2, 5, ("cy",))]
        case = case_of(FAMILY, will)
        rows = (TAKES_DI, TAKES_ED, GONE_FAY, DIVIDES_CY_ABOVE)
        lines = (("gift", 1, "stock", rows), ("gift", 2, "stock", rows), ("descent", 0, DESCENT))
        self.accepted(case, lines)
        self.refused(case, changed(lines, 1, ("gift", 2, "stock", ())))
        self.refused(case, changed(lines, 1, ("gift", 2, "stock", rows[-1:])))
        self.refused(case, changed(lines, 2, ("descent", 0, (TAKES_BO, DIVIDES_CY, DIVIDES_AL))))
        self.refused(case, changed(lines, 0, ("gift", 1, "stock", ())))

    def test_further_rows(self):
        for more in [(("zoe", -1), "takes", (), ()), (("zoe", 0), "takes", (), ()), (("zoe", 1), "gone", (), ()),
                     (("zoe", 3), "gone", (), ()), (("bo", 0), "takes", (), ()), (("fay", 0), "gone", (), ()),
                     (("al", 1), "gone", (), ()), (("al", 3), "gone", (), ()), (("al", 9), "gone", (), ()),
                     (("zoe", 10**30), "gone", (), ())]:
            for at in range(len(DESCENT) + 1):
                self.accepted_rows(*DESCENT[:at], more, *DESCENT[at:])
            self.refused_rows(*DESCENT, more, more)
        self.accepted_rows(*DESCENT, DIVIDES_CY_ABOVE)
        self.accepted_rows(*DESCENT[:5], DIVIDES_CY_ABOVE, DIVIDES_AL)
        self.refused_rows(DIVIDES_CY_ABOVE, *DESCENT)
        self.accepted_rows(*DESCENT, (("al", -1), "divides", (("cy", -1), ("bo", -1)), ()),
                           (("bo", 1), "divides", (("al", 0),), ()))

    def test_further_rows_that_do_not_follow(self):
        for more in [(("zoe", -1), "gone", (), ()), (("zoe", 0), "divides", (), ()), (("zoe", 1), "takes", (), ()),
                     (("zoe", 1), "divides", (), ()), (("fay", 0), "takes", (), ()), (("bo", 1), "gone", (), ()),
                     (("cy", 0), "gone", (), ()), (("al", 1), "divides", (), ()), (("al", 2), "takes", (), ()),
                     (("bo", 1), "gone", (), (("al", 0),))]:
            for at in range(len(DESCENT) + 1):
                self.refused_rows(*DESCENT[:at], more, *DESCENT[at:])

    def test_nodes_with_rows_below_minus_one(self):
        for row in (-2, -3, -10**30):
            for more in [(("zoe", row), "takes", (), ()), (("zoe", row), "gone", (), ()),
                         (("bo", row), "takes", (), ()), (("fay", row), "gone", (), ()),
                         (("cy", row), "divides", (("di", -1), ("ed", -1)), (("fay", -1),))]:
                self.refused_rows(*DESCENT, more)
                self.refused_rows(more, *DESCENT)

    def test_further_rows_in_the_line_of_a_gift(self):
        rows = (TAKES_DI, TAKES_ED, GONE_FAY, DIVIDES_CY_ABOVE)
        for will, how, needed in [(("sum", 1, 5, ("bo",)), "person", ()), (("sum", 1, 5, ("cy",)), "stock", rows),
                                  (("sum", 1, 5, ("fay",)), "lapse", ((("fay", 0), "gone", (), ()),)),
                                  (("sum", 1, 5, ("al",)), "lapse", ())]:
            case = case_of(FAMILY, [will])
            for more in (DESCENT, ((("zoe", 3), "gone", (), ()),), (TAKES_ED, TAKES_DI, GONE_FAY, DIVIDES_CY)):
                nodes = [row[0] for row in more]
                rest = tuple(row for row in needed if row[0] not in nodes)
                self.accepted(case, (("gift", 1, how, more + rest), ("descent", 0, DESCENT)))
                self.refused(case, (("gift", 1, how, more[1:] + more[:1] + rest + more[:1]), ("descent", 0, DESCENT)))
                for other in {"person", "stock", "lapse"} - {how}:
                    self.refused(case, (("gift", 1, other, more + rest), ("descent", 0, DESCENT)))

    def test_heads(self):
        case = case_of(born("al: bo cy, bo: di, cy: ed") + died("bo cy"), mode="heads")
        rows = (TAKES_DI, TAKES_ED, (("al", 0), "divides", (("di", -1), ("ed", -1)), ()))
        self.accepted(case, (("descent", 0, rows),))
        turned = (TAKES_ED, TAKES_DI, (("al", 0), "divides", (("ed", -1), ("di", -1)), ()))
        self.accepted(case, (("descent", 0, turned),))
        by_stocks = (TAKES_DI, (("bo", -1), "divides", (("di", -1),), ()), TAKES_ED,
                     (("cy", -1), "divides", (("ed", -1),), ()), DIVIDES_AL)
        self.refused(case, (("descent", 0, by_stocks),))
        self.accepted(case, (("descent", 0, by_stocks[:-1] + rows[2:]),))
        below = (("al", -1), "divides", (("bo", -1), ("cy", -1)), ())
        self.accepted(case, (("descent", 0, by_stocks[:-1] + rows[2:] + (below,)),))
        self.refused(case, (("descent", 0, rows + ((("al", -1), "divides", (("di", -1), ("ed", -1)), ()),)),))
        case = case_of(born("al: bo cy, bo: di, cy: ed") + died("bo cy"))
        self.accepted(case, (("descent", 0, by_stocks),))
        self.refused(case, (("descent", 0, rows),))


class Gifts(Checks):
    def test_a_node_that_the_line_needs_is_missing(self):
        stock = ("gift", 1, "stock", (TAKES_DI, TAKES_ED, GONE_FAY, DIVIDES_CY_ABOVE))
        for takers in (("cy",), ("cy", "fay"), ("cy", "al")):
            case = case_of(FAMILY, [("sum", 1, 5, takers)])
            self.accepted(case, (stock, ("descent", 0, DESCENT)))
            for rows in ((), DESCENT, stock[3][:-1], DESCENT[1:5], ((("fay", 0), "gone", (), ()),)):
                for how in ("person", "stock", "lapse"):
                    self.refused(case, (("gift", 1, how, rows), ("descent", 0, DESCENT)))

    def test_a_node_that_is_gone_is_missing(self):
        case = case_of(FAMILY, [("sum", 1, 5, ("fay",))])
        self.accepted(case, (("gift", 1, "lapse", ((("fay", 0), "gone", (), ()),)), ("descent", 0, DESCENT)))
        for rows in ((), (GONE_FAY,), ((("fay", 1), "gone", (), ()),), DESCENT):
            for how in ("person", "stock", "lapse"):
                self.refused(case, (("gift", 1, how, rows), ("descent", 0, DESCENT)))

    def test_nobody_steps_in(self):
        case = case_of(FAMILY, [("sum", 1, 5, ("cy",))], steps_in=False)
        for rows in ((), DESCENT, (TAKES_DI, TAKES_ED, GONE_FAY, DIVIDES_CY_ABOVE)):
            self.accepted(case, (("gift", 1, "lapse", rows), ("descent", 0, DESCENT)))
            for how in ("person", "stock"):
                self.refused(case, (("gift", 1, how, rows), ("descent", 0, DESCENT)))

    def test_a_first_taker_who_is_not_near(self):
        case = case_of(FAMILY + born("eve: gus") + died("eve"), [("sum", 1, 5, ("eve", "cy"))])
        eve = ((("gus", -1), "takes", (), ()), (("eve", 0), "divides", (("gus", -1),), ()))
        for rows in ((), eve, (TAKES_DI, TAKES_ED, GONE_FAY, DIVIDES_CY_ABOVE)):
            self.accepted(case, (("gift", 1, "lapse", rows), ("descent", 0, DESCENT)))
            for how in ("person", "stock"):
                self.refused(case, (("gift", 1, how, rows), ("descent", 0, DESCENT)))

    def test_a_taker_who_survives(self):
        for takers in (("cy", "bo"), ("bo", "cy"), ("al", "fay", "zoe")):
            case = case_of(FAMILY, [("sum", 1, 5, takers)])
            for rows in ((), DESCENT, (TAKES_DI, TAKES_ED, GONE_FAY, DIVIDES_CY_ABOVE)):
                self.accepted(case, (("gift", 1, "person", rows), ("descent", 0, DESCENT)))
                for how in ("stock", "lapse"):
                    self.refused(case, (("gift", 1, how, rows), ("descent", 0, DESCENT)))

    def test_gifts_that_do_not_count_have_lines(self):
        case = case_of(FAMILY, [("thing", 1, "boat", ("bo",)), ("sum", 2, 0, ("bo",))])
        lines = (("gift", 1, "person", ()), ("gift", 2, "person", ()), ("descent", 0, DESCENT))
        self.accepted(case, lines)
        for paper in (lines[1:], lines[:1] + lines[2:], lines[2:], changed(lines, 0, ("gift", 1, "lapse", ()))):
            self.refused(case, paper)

    def test_gifts_that_do_not_stand_have_none(self):
        case = case_of(FAMILY, [("sum", 1, 5, ("bo",)), ("sum", 2, 5, ("bo",)), ("revoke", 1)])
        self.accepted(case, (("gift", 2, "person", ()), ("descent", 0, DESCENT)))
        self.refused(case, (("gift", 1, "person", ()), ("descent", 0, DESCENT)))
        self.refused(case, (("gift", 1, "person", ()), ("gift", 2, "person", ()), ("descent", 0, DESCENT)))


class Descent(Checks):
    up = born("mo: al, gran: mo, ur: gran, ur: unc")
    rows = ((("al", 0), "gone", (), ()), (("al", -1), "gone", (), ()), (("mo", 0), "gone", (), (("al", -1),)),
            (("al", 1), "gone", (), (("mo", 0),)), (("gran", 0), "takes", (), ()),
            (("mo", 1), "divides", (("gran", 0),), ()), (("al", 2), "divides", (("mo", 1),), ()),
            (("ur", 0), "takes", (), ()), (("gran", 1), "divides", (("ur", 0),), ()),
            (("mo", 2), "divides", (("gran", 1),), ()), (("al", 3), "divides", (("mo", 2),), ()))

    def test_another_row(self):
        case = case_of(self.up + died("mo"))
        for rows in (self.rows[:7], self.rows):
            self.accepted(case, (("descent", 2, rows),))
            for row in (-1, 0, 1, 3, 4, -2, -3, 10**30, -10**30, "2", None, 2.5, (2,)):
                self.refused(case, (("descent", row, rows),))
        for many in range(7):
            for row in (-1, 0, 1, 2, 3, 4):
                self.refused(case, (("descent", row, self.rows[:many]),))

    def test_values_of_other_kinds_as_the_row(self):
        case = case_of(self.up + died("mo"))
        for row in JUNK + ["2", 2.0, [2], (2,)]:
            self.refused(case, (("descent", row, self.rows),))

    def test_a_lower_row_is_missing(self):
        case = case_of(self.up + died("mo"))
        for at in (0, 3):
            self.refused(case, (("descent", 2, self.rows[:at] + self.rows[at + 1:7]),))
        self.refused(case, (("descent", 2, self.rows[4:7]),))
        self.refused(case, (("descent", 2, self.rows[4:]),))

    def test_the_rows_of_the_dead_person_in_another_order(self):
        case = case_of(self.up + died("mo"))
        self.accepted(case, (("descent", 2, self.rows[4:7] + self.rows[:4]),))
        self.accepted(case, (("descent", 2, self.rows[1:4] + self.rows[4:7] + self.rows[:1]),))

    def test_the_row_is_at_most_the_rows_of_the_rules(self):
        for rows in (0, 1, 2, 3):
            case = case_of(self.up + died("mo"), rows=rows, spouse=((1, 2),) * (rows + 1))
            for row in (0, 1, 2, 3, 4):
                if row == 2 <= rows:
                    self.accepted(case, (("descent", row, self.rows),))
                else:
                    self.refused(case, (("descent", row, self.rows),))

    def test_one_greater_than_the_rows_of_the_rules(self):
        up = born("mo: al")
        rows = ((("al", 0), "gone", (), ()), (("mo", 0), "takes", (), ()), (("al", 1), "divides", (("mo", 0),), ()))
        case = case_of(up, rows=0, spouse=((1, 2),))
        self.refused(case, (("descent", 1, rows),))
        self.accepted(case, (("descent", -1, rows),))
        self.accepted(case, (("descent", -1, rows[:1]),))
        self.accepted(case_of(up), (("descent", 1, rows),))
        self.refused(case_of(up), (("descent", -1, rows),))

    def test_no_row(self):
        rows = tuple((("al", row), "gone", (), ()) for row in range(5))
        case = case_of([])
        self.accepted(case, (("descent", -1, rows[:4]),))
        self.accepted(case, (("descent", -1, rows[3::-1]),))
        self.accepted(case, (("descent", -1, rows),))
        for row in (-2, 0, 1, 2, 3, 4):
            self.refused(case, (("descent", row, rows),))
            self.refused(case, (("descent", row, rows[:4]),))
        for at in range(4):
            self.refused(case, (("descent", -1, rows[:at] + rows[at + 1:]),))
            self.refused(case, (("descent", -1, changed(rows, at, (("al", at), "divides", (), ()))),))
        for many in range(4):
            case = case_of([], rows=many, spouse=((1, 2),) * (many + 1))
            self.accepted(case, (("descent", -1, rows[:many + 1]),))
            self.refused(case, (("descent", -1, rows[:many]),))

    def test_no_row_but_the_last_one_is_not_gone(self):
        case = case_of(self.up + died("mo gran"))
        paper = make_paper(case)
        self.assertEqual(paper[0][1], 3)
        self.accepted(case, paper)
        for row in (-1, 0, 1, 2, 4):
            self.refused(case, (("descent", row, paper[0][2]),))
            self.refused(case, (("descent", row, paper[0][2][:-1]),))

    def test_the_rows_of_somebody_else(self):
        case = case_of(born("bo: cy"))
        rows = ((("bo", 0), "takes", (), ()), (("bo", 1), "gone", (), ()))
        for row in (-1, 0, 1):
            self.refused(case, (("descent", row, rows),))
            self.refused(case, (("descent", row, rows + ((("al", -1), "gone", (), ()),)),))


class Spoiled(Checks):
    """Papers that are spoiled at random, against the plain words of the document."""

    words = [None, (), "person", "stock", "lapse", "takes", "divides", "gone", "gift", "descent", -2, -1, 0, 1, 2, 3, 4,
             "a", "b", "c", "zoe", "crown", [], ("a", -1), ("b", 0), (("zoe", 0), "takes", (), ()),
             (("zoe", 1), "gone", (), ())]

    def spoil(self, dice, value):
        """A tuple of tuples, or something else, with a change in one place of it."""
        if not isinstance(value, tuple) or not value:
            return dice.choice(self.words)
        parts, at = list(value), dice.randrange(len(value))
        way = dice.random()
        if way < 0.75:
            parts[at] = self.spoil(dice, parts[at])
        elif way < 0.8:
            parts.pop(at)
        elif way < 0.85:
            parts.insert(at, dice.choice(parts + self.words))
        elif way < 0.95:
            dice.shuffle(parts)
        else:
            parts[at] = dice.choice(parts)
        return tuple(parts)

    def stirred(self, dice, plain, rows):
        """These rows with others that follow, and with their parts in another order."""
        rows = list(rows)
        for name in dice.sample("abcdefghij", 3):
            for row in plain.rows((name, dice.randint(-1, 4))):
                if row[0] not in [other[0] for other in rows]:
                    rows.append(row)
        return tuple((node, kind, tuple(dice.sample(live, len(live))), tuple(dice.sample(gone, len(gone))))
                     for node, kind, live, gone in rows)

    def test_spoiled_papers(self):
        dice = random.Random(72)
        seen = []
        for _ in range(500):
            args = random_case(dice)
            case, plain = made(*args), PlainCase(*args)
            own, wanted = plain.paper(), plain.division()
            for _ in range(12):
                paper = own
                for _ in range(dice.choice([1, 1, 2])):
                    paper = self.spoil(dice, paper)
                seen.append(plain.accepts(paper))
                self.assertIs(accepts(case, paper), seen[-1], (args, paper))
                if seen[-1]:
                    self.assertEqual(shown(judge(case, paper)), wanted)
        self.assertGreater(seen.count(True), 100)
        self.assertGreater(seen.count(False), 2000)

    def test_stirred_papers(self):
        dice = random.Random(73)
        for _ in range(300):
            args = random_case(dice)
            case, plain = made(*args), PlainCase(*args)
            paper = tuple(with_rows(line, self.stirred(dice, plain, line[-1])) for line in plain.paper())
            self.assertTrue(plain.accepts(paper))
            self.accepted(case, paper)
            self.assertEqual(shown(judge(case, paper)), plain.division())


class Keeping(Checks):
    def test_the_case_stays_as_it_was(self):
        case = case_of(FAMILY, [("sum", 1, 30, ("bo",)), ("rest", 3, 10, ("cy",))])
        paper = make_paper(case)
        before = copy.deepcopy((case.gifts, paper))
        first = shown(judge(case, paper))
        self.refused(case, paper[:-1])
        self.assertEqual((case.gifts, paper), before)
        self.assertEqual((shown(judge(case, paper)), make_paper(case)), (first, paper))

    def test_the_parts_of_a_paper_that_is_refused_stay_as_they_were(self):
        case = case_of(FAMILY, [("sum", 1, 30, ("bo",))])
        paper = [list(make_paper(case)[0]), ["descent", 0, [list(row) for row in DESCENT]]]
        before = copy.deepcopy(paper)
        self.refused(case, paper)
        self.refused(case, tuple(map(tuple, paper)))
        self.assertEqual(paper, before)

    def test_the_names_of_the_arguments(self):
        case = case_of(FAMILY)
        self.assertEqual(judge(paper=make_paper(case), case=case).coins(), [("bo", 50), ("di", 25), ("ed", 25)])

    def test_they_are_defined_in_this_file(self):
        for name in ("judge", "Division"):
            self.assertEqual(getattr(judging, name).__module__, "parcener.judge")


if __name__ == "__main__":
    unittest.main()
