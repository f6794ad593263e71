"""Claims: their parts, whether they are true, contraries, papers."""

import unittest

from curvepieces.claims import contrary, is_claim, is_paper_of, is_true, paper_of, words
from curvepieces.curves import curve_degree, point_at
from curvepieces.equations import equation
from curvepieces.errors import InvalidClaim, NotClean
from curvepieces.followers import followers
from curvepieces.slopes import count_paper, is_count_paper
from tests import plain
from tests.samples import FEW, SAMPLES
from tests.support import (NOT_CURVES, NOT_FORMS, NOT_INTEGERS, NOT_PLANES, STRANGE, Dice, Thing, as_tuples, check_call,
                           check_judge, check_parameters, exactly, lists_in, refused, refused_limit, refused_value)
from tests.test_curves import CIRCLE, CUSP, STRAIGHT
from tests.test_equations import ALL as EVERY_CURVE
from tests.test_equations import BEND, TWICE, at_point, put_into
from tests.test_followers import NOT_PAIRS, PAIR, cross, free_many, times, top, total
from tests.test_meetings import mixed_forms
from tests.test_planeparts import WHOLE, of
from tests.test_slopes import NOT_CLEAN, NOT_TABLED

ROWS = [("pieces", "otherwise"), ("clean", "double"), ("within", "outside"), ("whole", "splits"), ("degrees", "unlike"),
        ("along", "aside")]

CURVES = EVERY_CURVE[:34:2]
TWIN, LINE, NEXT = [[0, 0, -2], [], [1]], [[0, -1], [1]], [[0, 1], [1]]


def rows_of_claims():
    """Claims of the first word of each row, and whether they are true."""
    found = []
    for plane, many in FEW:
        found += [(("pieces", plane, told), told == many) for told in {0, 1, many, many + 1, 8}]
    for one in WHOLE:
        for two in WHOLE:
            both = of(-2, one, two)
            if len(both) > 1:
                found.append((("clean", both), len(one) > 1 and len(two) > 1 and one != two))
            found.append((("within", both, of(6, two)), True))
            found.append((("within", of(6, one), two), one == two))
            found.append((("within", of(1, one), both), False))
    found += [(("whole", plane), len(parts) == 1) for plane, parts in SAMPLES[::8]]
    for at, curve in enumerate(CURVES):
        least = [most for most in range(6) if free_many(curve, most)][0]
        found += [(("degrees", curve, told), told == least) for told in range(6)]
        plane, many = equation(curve)
        found += [(("along", curve, (plane, many)), True), (("along", curve, (of(-3, plane), 8)), True)]
        found += [(("along", curve, form), False) for form in mixed_forms(190 + at, curve, 2)]
    return found


CLAIMS = rows_of_claims()
FEW_CLAIMS = [claim for claim, _ in CLAIMS[::29]] + [("splits", TWIN), ("otherwise", LINE, 2),
                                                     ("double", [[], [], [1]]),
                                                     ("outside", TWIN, LINE), ("unlike", CUSP, 0),
                                                     ("aside", CIRCLE, ([[1]], 0))]


def other_word(claim):
    """The claim with the other word of its row."""
    row = [row for row in ROWS if claim[0] in row][0]
    return (row[1 - row.index(claim[0])],) + claim[1:]


# What is no claim: of each word with parts of wrong kinds, too few of them, too many.
NOT_CLAIMS = STRANGE + [0, 1, [], (), ("pieces",), ("pieces", TWIN), ("pieces", TWIN, 2, 2), ("pieces", 2, TWIN),
                        ["pieces", TWIN, 2], ("pieces", TWIN, 9), ("otherwise", TWIN, 9), ("pieces", TWIN, -1),
                        ("pieces", TWIN, True), ("pieces", TWIN, "2"), ("pieces", [[0]], 2), ("piece", TWIN, 2),
                        ("", TWIN), (None, TWIN), (["clean"], TWIN), (("clean",), TWIN), ("clean",), ("clean", []),
                        ("clean", [[1]]), ("double", [[1, 1]]), ("clean", TWIN, TWIN), ("clean", [[1], []]),
                        ("clean", None),
                        ("Clean", TWIN), ("clean ", TWIN), ("within", TWIN), ("within", TWIN, []), ("within", [], TWIN),
                        ("outside", TWIN, TWIN, TWIN), ("outside", TWIN, 3), ("whole", []), ("splits", ()), ("whole",),
                        ("whole", TWIN, 1), ("whole", [1]), ("degrees", CIRCLE, 6), ("unlike", CIRCLE, -1),
                        ("degrees", CIRCLE), ("degrees", CIRCLE, 1, 1), ("degrees", LINE, 1),
                        ("degrees", CIRCLE, False),
                        ("along", CIRCLE), ("along", CIRCLE, [[[1]], 1]), ("along", CIRCLE, [[1]], 1),
                        ("aside", CIRCLE, LINE),
                        ("along", CIRCLE, ([], 1)), ("aside", LINE, ([[1]], 1)), ("aside", CIRCLE, ([[1]], 9)),
                        ("undo",), (Thing(), TWIN), (True, TWIN), (0, TWIN), ({}, TWIN), ("pieces", TWIN, [2])]


class ClaimTest(unittest.TestCase):

    def test_words(self):
        self.assertEqual(exactly(words()), exactly(ROWS))
        told = words()
        told[0] = told.pop()
        self.assertEqual(words(), ROWS)

    def test_parts_of_each_kind(self):
        for claim, _ in CLAIMS:
            for told in (claim, other_word(claim)):
                self.assertIs(is_claim(told), True, told)
                self.assertIs(is_claim(value=as_tuples(told)), True)
                self.assertIs(is_claim(list(told)), False)
                self.assertIs(is_claim(told[:-1]), False)
                self.assertIs(is_claim(told + (1,)), False)

    def test_counts_at_their_bounds(self):
        for word in ROWS[0]:
            self.assertEqual([is_claim((word, TWIN, many)) for many in (-1, 0, 7, 8, 9, 10 ** 29)],
                             [False, True, True, True, False, False])
        for word in ROWS[4]:
            self.assertEqual([is_claim((word, CIRCLE, many)) for many in (-1, 0, 4, 5, 6, 10 ** 29)],
                             [False, True, True, True, False, False])
        for word in ROWS[5]:
            self.assertEqual([is_claim((word, CIRCLE, ([[1]], many))) for many in (-1, 0, 8, 9)],
                             [False, True, True, False])

    def test_planes_that_are_let(self):
        nought, number, free, linear = [], [[5]], [[1, 1]], [[], [1]]
        for word in ROWS[0]:
            self.assertEqual([is_claim((word, plane, 1)) for plane in (nought, number, free, linear)], [True] * 4)
        for word in ROWS[1]:
            self.assertEqual([is_claim((word, plane)) for plane in (nought, number, free, linear)],
                             [False, False, False, True])
        for word in ROWS[2]:
            self.assertEqual([is_claim((word, plane, linear)) for plane in (nought, number, free, linear)],
                             [False, True, True, True])
            self.assertEqual([is_claim((word, linear, plane)) for plane in (nought, number, free, linear)],
                             [False, True, True, True])
        for word in ROWS[3]:
            self.assertEqual([is_claim((word, plane)) for plane in (nought, number, free, linear)],
                             [False, True, True, True])

    def test_any_value(self):
        wrong = NOT_CLAIMS + [(word, value, 2) for word in ROWS[0] for value in NOT_PLANES]
        wrong += [("pieces", TWIN, value) for value in NOT_INTEGERS] + [("double", value) for value in NOT_PLANES]
        wrong += [("within", TWIN, value) for value in NOT_PLANES] + [("outside", value, TWIN) for value in NOT_PLANES]
        wrong += [("splits", value) for value in NOT_PLANES] + [("unlike", value, 2) for value in NOT_CURVES]
        wrong += [("degrees", CIRCLE, value) for value in NOT_INTEGERS] + [("aside", CIRCLE,
                                                                            value) for value in NOT_FORMS]
        wrong += [("along", value, ([[1]], 1)) for value in NOT_CURVES]
        check_judge(self, is_claim, wrong)
        for value in wrong:
            self.assertIs(is_claim(value), False, value)


class TrueTest(unittest.TestCase):

    def test_known_ones(self):
        for claim, so in CLAIMS:
            self.assertIs(is_true(claim), so, claim)
            self.assertIs(is_true(claim=as_tuples(other_word(claim))), not so, claim)

    def test_told_ones(self):
        for claim in (("pieces", TWIN, 2), ("whole", TWIN), ("degrees", CIRCLE, 1), ("otherwise", TWIN, 1),
                      ("clean", TWIN),
                      ("double", of(1, TWIN, [[0, 1]])), ("within", [[0, 0, 2], [0, 2]], NEXT), ("unlike", CIRCLE, 0),
                      ("splits", of(1, LINE, NEXT)), ("along", TWICE, ([[0, -1], [], [1]], 2)),
                      ("aside", BEND, ([[1]], 1)),
                      ("within", [[1]], [[-3]]), ("outside", [[1]], [[0, 1]]), ("degrees", STRAIGHT, 0)):
            self.assertIs(is_true(claim), True, claim)
            self.assertIs(is_true(contrary(claim)), False, claim)

    def test_what_piece_count_and_is_whole_raise(self):
        for plane in NOT_CLEAN:
            claims = [("pieces", plane, 1), ("otherwise", plane, 1)]
            if plane:
                claims += [("whole", plane), ("splits", plane)]
            for claim in claims:
                for function in (is_true, paper_of):
                    refused(self, NotClean, function, claim)
                self.assertIs(is_paper_of(claim, None), False)
                self.assertIs(is_claim(contrary(claim)), True)
        for _, plane in NOT_TABLED:
            for claim in (("pieces", plane, 1), ("otherwise", plane, 1), ("whole", plane), ("splits", plane)):
                for function in (is_true, paper_of):
                    refused_limit(self, "degree", 4, function, claim)
                    refused_limit(self, "degree", 4, function, claim=claim)
                self.assertIs(is_paper_of(claim, 1), False)


class ContraryTest(unittest.TestCase):

    def test_the_other_word_and_the_same_parts(self):
        for claim, _ in CLAIMS[::3]:
            for told in (claim, other_word(claim), as_tuples(claim)):
                wanted = other_word(told)
                self.assertEqual(exactly(contrary(told)), exactly(wanted))
                self.assertEqual(exactly(contrary(claim=contrary(claim=told))), exactly(told))
                passed, fresh = lists_in(told), lists_in(contrary(told))
                self.assertFalse({id(part) for part in passed} & {id(part) for part in fresh})

    def test_it_is_decided_by_the_parts_alone(self):
        for plane in NOT_CLEAN[1:]:
            self.assertEqual(contrary(("whole", plane)), ("splits", plane))
        for _, plane in NOT_TABLED:
            self.assertEqual(contrary(("otherwise", plane, 3)), ("pieces", plane, 3))


class PaperTest(unittest.TestCase):

    def test_a_true_claim_has_one_and_its_contrary_none(self):
        for claim, so in CLAIMS[::2]:
            right, wrong = (claim, other_word(claim)) if so else (other_word(claim), claim)
            self.assertIs(paper_of(wrong), None)
            paper = paper_of(claim=right)
            if right[0] == "whole":
                self.assertIs(paper, None)
                continue
            self.check(right, wrong, paper)

    def check(self, right, wrong, paper):
        """It is a paper, also of tuples, of this claim alone; a list in the place of its tuple is none."""
        self.assertTrue(self.holds(right, paper), (right, paper))
        self.assertIs(is_paper_of(right, paper), True, (right, paper))
        self.assertIs(is_paper_of(claim=as_tuples(right), value=as_tuples(paper)), True)
        self.assertIs(is_paper_of(wrong, paper), False, (wrong, paper))
        if isinstance(paper, tuple):
            for value in (list(paper), paper[:-1], paper + (1,), paper[0], paper[1]):
                self.assertIs(is_paper_of(right, value), False)
            for at in range(len(paper)):
                for value in (None, True, "x", Thing(), [], (), -1, [[Thing()]]):
                    self.assertIs(is_paper_of(wrong, paper[:at] + (value,) + paper[at + 1:]), False)
        for value in STRANGE:
            self.assertIs(is_paper_of(right, value), False)

    def holds(self, claim, paper):
        """By words, whether the value, of the right kinds, shows the claim."""
        word, parts = claim[0], claim[1:]
        if word == "pieces":
            return is_count_paper(parts[0], parts[1], paper)
        if word == "otherwise":
            return paper[0] != parts[1] and 0 <= paper[0] <= 8 and is_count_paper(parts[0], *paper)
        if word == "clean":
            line = plain.cut([plain.value(line, paper) for line in parts[0]])
            return paper >= 0 and len(line) == len(parts[0]) and plain.common_degree(line, plain.slope(line)) == 0
        if word == "double":
            slope = plain.gathered(plain.slope_x(plain.spread(parts[0])))
            return self.is_part(paper) and plain.goes(paper, parts[0]) and plain.goes(paper, slope)
        if word == "splits":
            return self.is_part(paper) and plain.goes(paper, parts[0]) and not plain.goes(parts[0], paper)
        if word == "within":
            return paper[0] != 0 and plain.product([[paper[0]]], parts[0]) == plain.product(parts[1], paper[1])
        if word == "outside":
            return not self.goes_at(parts, *paper)
        if word in ("degrees", "unlike"):
            first, second = paper
            return (total(first, parts[0]) == total(second, parts[0]) == [] and top(first) <= top(second) and
                    top(first) + top(second) == curve_degree(parts[0]) and any(cross(first, second)) and
                    (top(first) == parts[1]) == (word == "degrees"))
        if word == "aside":
            return at_point(parts[1], point_at(parts[0], paper)) != 0
        plane, many = equation(parts[0])
        return (paper[0] != 0 and plain.product([[paper[0]]], parts[1][0]) == plain.product(plane, paper[1][0]) and
                parts[1][1] == many + paper[1][1])

    def is_part(self, plane):
        return max(i + j for i, j in plain.spread(plane)) > 0

    def goes_at(self, parts, letter, number):
        """Whether the second plane goes into the first one with the number for the letter."""
        left = []
        for plane in parts:
            line = {}
            for (i, j), told in plain.spread(plane).items():
                power, factor = (j, number ** i) if letter == "x" else (i, number ** j)
                line[power] = line.get(power, 0) + told * factor
            left.append(plain.cut([line.get(power, 0) for power in range(9)]))
        return left[0] == [] if left[1] == [] else plain.divided(left[0], left[1])[1] == []


class WrongPaperTest(unittest.TestCase):

    def refuse(self, claim, papers):
        """None of the values is a paper of the claim."""
        for paper in papers:
            told = is_paper_of(claim, paper)
            self.assertIs(told, False, (claim, paper))

    def accept(self, claim, papers):
        """Each of the values is a paper of the claim, and of tuples too; it is none of the contrary."""
        for paper in papers:
            self.assertIs(is_paper_of(claim, paper), True, (claim, paper))
            self.assertIs(is_paper_of(claim, as_tuples(paper)), True, (claim, paper))
            self.assertIs(is_paper_of(contrary(claim), paper), False, (claim, paper))

    def test_counts(self):
        rows, equations, places = paper = count_paper(TWIN)
        self.accept(("pieces", TWIN, 2), [paper])
        self.refuse(("pieces", TWIN, 1), [paper])
        self.refuse(("pieces", TWIN, 2), [None, (), [], (rows[:1], equations, places), (rows, equations[1:], places),
                                          (rows, equations, places[1:]), (rows, places), (equations, rows, places),
                                          (rows + rows, equations, places), (2, paper),
                                          (rows[:1] * 2, equations, places)])
        for many in range(9):
            told = (2, paper)
            self.assertIs(is_paper_of(("otherwise", TWIN, many), told), many != 2)
        self.refuse(("otherwise", TWIN, 1), [paper, (3, paper), (1, paper), (2,), (2, paper, 2), [2, paper],
                                             (True, paper),
                                             (-1, paper), (9, paper), ("2", paper), (2, list(paper)), (paper, 2),
                                             (2, None)])
        one = count_paper([[5], [2]])
        self.accept(("otherwise", [[5], [2]], 0), [(1, one)])
        self.refuse(("otherwise", [[5], [2]], 0), [(True, one)])

    def test_where_a_plane_has_no_count(self):
        paper = count_paper(TWIN)
        for plane in NOT_CLEAN + [plane for _, plane in NOT_TABLED]:
            for many in (0, 1, 2, 8):
                self.refuse(("pieces", plane, many), [paper, ([], [], []), None])
                self.refuse(("otherwise", plane, many), [(2, paper), (0, ([], [], [])), None])

    def test_clean_places(self):
        self.accept(("clean", TWIN), [1, 2, 7, 10 ** 29])
        self.refuse(("clean", TWIN), [0, -1, True, "1", [1], (1,), None])
        # A place that would do, but the plane is not clean.
        for plane in (of(1, [[0, 1]], LINE), of(1, [[0, 1]], [[-2], [], [1]])):
            self.refuse(("clean", plane), [0, 1, 2, 3, 4])
            self.accept(("double", plane), [[[0, 1]], [[0, -6]]])
        # A place at which the degree is less.
        self.refuse(("clean", [[1], [0, 1]]), [0, -1])
        self.accept(("clean", [[1], [0, 1]]), [1, 2])

    def test_double_parts(self):
        plane = of(1, LINE, LINE, NEXT, [[3, 1]])
        self.accept(("double", plane), [LINE, [[0, 6], [-6]], of(1, LINE, [[3, 1]]), [[3, 1]], of(-5, [[3, 1]], LINE)])
        self.refuse(("double", plane), [NEXT, of(1, LINE, LINE), plane, [[1]], [[7]], [], of(1, LINE, NEXT), TWIN, None,
                                        1,
                                        [LINE], (LINE,), [[0, -1], [True]]])
        self.refuse(("double", TWIN), [[[1]], TWIN, LINE, []])
        # What goes into the slope alone, or into the plane alone.
        self.refuse(("double", TWIN), [[[], [1]], [[], [-2]]])
        plane = of(1, LINE, LINE, [[], [1]])
        self.refuse(("double", plane), [[[], [1]], of(1, LINE, LINE), [[0, -1], [3]], of(1, LINE, [[0, -1], [3]])])
        self.accept(("double", plane), [LINE])

    def test_quotients(self):
        plane = [[0, 0, 2], [0, 2]]
        self.accept(("within", plane, NEXT), [(1, [[0, 2]]), (-1, [[0, -2]]), (5, [[0, 10]])])
        self.refuse(("within", plane, NEXT), [(0, []), (0, [[0, 2]]), (1, [[0, 1]]), (2, [[0, 2]]), (1, []), (1, [[2]]),
                                              (True, [[0, 2]]), [1, [[0, 2]]], (1, [[0, 2]], 1), ([[0, 2]], 1), 1,
                                              [[0, 2]],
                                              (1, [[0, 2], []]), (1, [0, 2]), (1, [[0, True]])])
        self.accept(("within", [[1]], [[-3]]), [(-3, [[1]]), (6, [[-2]])])
        self.accept(("within", [[2]], [[3]]), [(3, [[2]])])
        self.refuse(("within", TWIN, LINE), [(1, NEXT), (1, LINE), (0, []), (1, TWIN)])

    def test_places_that_leave_a_rest(self):
        self.accept(("outside", TWIN, [[0, 1]]), [("y", 0), ("x", 1), ("x", -2)])
        self.refuse(("outside", TWIN, [[0, 1]]), [("y", 1), ("y", 5), ("x", 0), ("z", 0), ("", 0), ("xy", 0), (0, "y"),
                                                  ["y", 0],
                                                  ("y", True), ("y", None), ("y",), ("y", 0, 0), ("Y", 0), (None, 0),
                                                  (["y"], 0), ("y", "0"), "y", (b"y", 0), ("y", [0])])
        # 0 goes into 0 alone, and whatever it is goes into 0.
        self.accept(("outside", [[1], [1]], [[-1], [1]]), [("x", 1), ("y", 3), ("y", 10 ** 29)])
        self.refuse(("outside", [[-1], [1]], of(1, [[-1], [1]], LINE)), [("x", 1)])
        self.refuse(("outside", [[0, -1], [1]], [[5], [1]]), [("y", -5)])
        self.refuse(("within", [[0, -1], [1]], [[5], [1]]), [("y", 0), ("x", 1)])
        # Only one of both letters tells it.
        self.refuse(("outside", [[], [1]], [[0, 1]]), [("y", 1), ("y", 2)])
        self.accept(("outside", [[], [1]], [[0, 1]]), [("y", 0), ("x", 1)])

    def test_no_paper_of_whole(self):
        self.refuse(("whole", TWIN), [None, 1, TWIN, [[1]], LINE, (), ("x", 0), count_paper(TWIN)])

    def test_parts(self):
        plane = of(3, TWIN, LINE)
        self.accept(("splits", plane), [TWIN, LINE, of(-5, TWIN), [[0, 7], [-7]]])
        self.refuse(("splits", plane), [plane, of(-1, TWIN, LINE), [[1]], [[3]], [], NEXT, None, (LINE,), [LINE], 1])
        self.refuse(("splits", TWIN), [TWIN, LINE, [[1]]])
        # It is decided also where the plane is not clean, or of great degrees.
        self.accept(("splits", of(1, LINE, LINE)), [LINE])
        self.accept(("splits", [[0, 0, 1]]), [[[0, 1]]])
        self.accept(("splits", [[]] * 8 + [[1]]), [[[], [1]], [[], [], [1]]])
        self.refuse(("splits", [[7]]), [[[7]], [[1]], LINE])

    def test_pairs(self):
        first, second = PAIR
        self.accept(("degrees", CIRCLE, 1), [PAIR, PAIR[::-1]])
        for many in (0, 2, 3, 4, 5):
            self.accept(("unlike", CIRCLE, many), [PAIR])
            self.refuse(("degrees", CIRCLE, many), [PAIR])
        self.refuse(("unlike", CIRCLE, 1), [PAIR])
        self.refuse(("degrees", CIRCLE, 1), NOT_PAIRS)
        self.refuse(("unlike", CIRCLE, 0), NOT_PAIRS)
        for curve in CURVES:
            least = [most for most in range(6) if free_many(curve, most)][0]
            one, two = followers(curve)
            self.accept(("degrees", curve, least), [(times([-4], one), times([9], two))])
            self.refuse(("degrees", curve, least), [(one, one), (one, times([0, 1], two)), [one, two], (one,)])

    def test_factors_of_forms(self):
        plane, many = equation(CIRCLE)
        form = (of(6, plane, LINE), 4)
        self.accept(("along", CIRCLE, form), [(1, (of(6, LINE), 2)), (-2, (of(-12, LINE), 2))])
        self.refuse(("along", CIRCLE, form), [(1, (of(6, LINE), 1)), (1, (of(6, LINE), 3)), (1, (LINE, 2)),
                                              (0, (LINE, 2)),
                                              (0, ([], 2)), (1, [of(6, LINE), 2]), [1, (of(6, LINE), 2)],
                                              (1, of(6, LINE), 2),
                                              (True, (of(6, LINE), 2)), (1, (of(6, LINE), 2), 1), ((of(6, LINE), 2), 1),
                                              (1, None), (1, (of(6, LINE), True)), None, 1])
        # w alone: its form's plane is the whole one's.
        straight = [[0, 1], [1], []]
        self.accept(("along", straight, ([[], [5]], 2)), [(1, ([[], [5]], 1))])
        self.refuse(("along", straight, ([[], [5]], 2)), [(1, ([[], [5]], 2)), (1, ([[5]], 1))])
        self.refuse(("along", straight, ([[], [5]], 1)), [(1, ([[], [5]], 0)), (1, ([[], [5]], 1))])

    def test_times_aside(self):
        self.accept(("aside", BEND, ([[0, 1]], 1)), [1, -1, 7, 10 ** 29])
        self.refuse(("aside", BEND, ([[0, 1]], 1)), [0, True, "1", [1], (1,), None])
        self.refuse(("along", BEND, ([[0, 1]], 1)), [0, 1])
        self.refuse(("aside", BEND, equation(BEND)), [0, 1, 2, -5])
        self.accept(("aside", BEND, ([[1]], 1)), [0, -3])

    def test_places_far_away(self):
        # Forms and planes for which the first places show nothing.
        line = plain.times_all([[-time, 1] for time in range(5)])
        curve = [[0, 1], line, [1]]
        self.assertEqual(put_into(([[0, 1]], 1), curve), line)
        paper = paper_of(("aside", curve, ([[0, 1]], 1)))
        self.accept(("aside", curve, ([[0, 1]], 1)), [paper])
        roots = plain.times_all([[-place, 1] for place in range(8)])
        by_x = [[number] if number else [] for number in roots]
        for claim in (("outside", by_x, [[0, 1]]), ("outside", of(1, by_x, [[0, 1]]), [[0, 0, 1]]),
                      ("outside", [roots], [[], [1]]), ("clean", [roots, [1]]), ("clean", [[-1], roots])):
            self.accept(claim, [paper_of(claim)])


class ConventionsTest(unittest.TestCase):

    def test_parameters(self):
        for function in (is_true, contrary, paper_of):
            check_parameters(self, function, [("claim", ("clean", TWIN), NOT_CLAIMS, InvalidClaim)])
        for value in (None, 1, (1, 2)):
            check_parameters(self, is_paper_of, [("claim", ("clean", TWIN), NOT_CLAIMS, InvalidClaim),
                                                 ("value", value, [], None)])
        for wrong in [("aside", CIRCLE, value) for value in NOT_FORMS] + [("splits", value) for value in NOT_PLANES]:
            refused_value(self, InvalidClaim, wrong, is_true, wrong)
            refused_value(self, InvalidClaim, wrong, is_paper_of, wrong, 1)

    def test_any_value_as_a_paper(self):
        dice = Dice(191)
        values = STRANGE + NOT_PLANES + NOT_PAIRS + NOT_FORMS + [(1, 2), ("x", None), (None, 1), ([], [], []),
                                                                 ([1], [2], [3])]
        for claim in FEW_CLAIMS:
            check_judge(self, is_paper_of, values, claim)
            for _ in range(30):
                pieces = [values[dice.roll(0, len(values) - 1)] for _ in range(dice.roll(1, 3))]
                self.assertIs(is_paper_of(claim, tuple(pieces)).__class__, bool)

    def test_what_is_passed_stays_and_what_is_returned_is_new(self):
        for claim in FEW_CLAIMS + [contrary(claim) for claim in FEW_CLAIMS]:
            for given in (claim, as_tuples(claim)):
                for function in (is_claim, is_true, contrary, paper_of):
                    check_call(self, function, [given])
                check_call(self, is_paper_of, [given, paper_of(given)])
            self.assertEqual(is_true(claim), is_true(as_tuples(claim)))
            self.assertEqual(paper_of(claim), paper_of(as_tuples(claim)))


if __name__ == "__main__":
    unittest.main()
