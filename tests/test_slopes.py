"""Slope rows: unknowns, tables, counts, told rows, minors and count papers."""

import copy
import unittest
from itertools import combinations
from math import gcd

from curvepieces.errors import InvalidMany, InvalidPlane, InvalidPositions, NotClean
from curvepieces.letters import changed, exchanged
from curvepieces.planeparts import is_clean
from curvepieces.planes import degrees, plane_sum, plane_times, slope_x, slope_y
from curvepieces.slopes import (count_paper, is_count_paper, is_slope_row, minor, piece_count, slope_rows, slope_table,
                                unknowns)
from tests import plain
from tests.support import (NOT_INTEGERS, NOT_PLANES, STRANGE, Dice, as_tuples, check_call, check_judge,
                           check_parameters, exactly, refused, refused_limit, refused_value)

TWIN, RING, TWO, TRIO = [[0, 0, -2], [], [1]], [[-1, 0, 1], [], [1]], [[-1], [], [1]], [[0, 0, 0, -2], [], [], [1]]
TILTED = [[7, 1, -3], [2, -5], [1, 4]]

# Planes without common parts, and into how many pieces each falls over all numbers.
KNOWN = [([[0, -1], [1]], 1), ([[0, 1], [1]], 1), ([[3, -2], [1]], 1), ([[5], [2]], 1), ([[11, 1], [0, 1]], 1),
         (TWIN, 2), (RING, 1), (TRIO, 3), ([[-2], [], [1]], 2), ([[0, 0, 1], [], [1]], 2), ([[0, 1], [], [-1]], 1),
         ([[7, 0, -2], [], [1]], 1), ([[-2], [], [], [1]], 3), ([[0, 0, -1], [], [], [1]], 1), ([[-3], [], [0, 0, 1]], 2)]

# Such of degree 4 in a letter.
GREAT = [([[0, 0, 0, 0, -2], [], [], [], [1]], 4), ([[1], [], [], [], [1]], 4), ([[0, 0, -2], [], [], [], [1]], 2),
         ([[0, 0, 0, -1], [], [], [], [1]], 1), ([[-1, 0, 0, 0, 1], [], [], [], [1]], 1),
         ([[-2, 0, 1], [], [0, -2], [], [1]], 2), ([[0, 0, 2], [], [0, -2], [], [1]], 2),
         ([[0, 0, 0, 0, 1], [1]], 1), ([[-2, 0, 0, 0, 1], [], [1]], 1), ([[1, 2, 3, 4, 5], [1], [], [7], [2]], 1)]

SOME = [TWIN, RING, TWO, [[0, -1], [1]], [[11, 1], [0, 1]], TILTED, [[4], [2]], TRIO, [[0, 2, 0, 1], [3, 1]]]

NOT_TABLED = [("five in x", [[0, 1], [], [], [], [], [1]]), ("five in y", [[0, 0, 0, 0, 0, 2], [1]]),
              ("five in both", [[0, 0, 0, 0, 0, 2], [], [], [], [], [1]]), ("eight", [[0, 1]] + [[]] * 7 + [[1]])]
NOT_CLEAN = [[], [[1]], [[0, 1]], [[-6, 3]], plain.product(RING, [[0, 1]]), [[0, 0, 1], [0, 2], [1]],
             [[0, 0, 2], [0, 4], [2]], [[]] * 5 + [[1]], [[0] * 5 + [1]], [[0, 1]] + [[]] * 4 + [[0, 1]]]

ONE_PLANE = [unknowns, slope_table, slope_rows, piece_count, count_paper]

NOT_POSITIONS = STRANGE + [0, 1, [-1], (-1,), [0, 0], (1, 0, 1), [True], [False], [1, True], [0, None], ["0"], [[0]],
                           [(0,)], [10 ** 29], [16], [0, 16], [object()], [{}], [0, [1]]]


def products():
    """Products of known planes, of degrees to 4, and into how many pieces they fall."""
    found = list(KNOWN) + list(GREAT)
    for many in (2, 3, 4):
        for parts in combinations(KNOWN, many):
            if max(sum(degrees(plane)[at] for plane, _ in parts) for at in (0, 1)) <= 4:
                found.append((plain.product(*[plane for plane, _ in parts]), sum(count for _, count in parts)))
    return found


def wanted_unknowns(plane):
    m, n = degrees(plane)
    return ([("g", i, j) for i in range(0, m) for j in range(0, n + 1)] +
            [("h", i, j) for i in range(0, m + 1) for j in range(0, n)])


def wanted_table(plane):
    """By putting in 1 for one unknown, 0 for the others, in turn."""
    m, n = degrees(plane)
    columns = []
    for word, i, j in wanted_unknowns(plane):
        one = plain.gathered({(i, j): 1})
        columns.append(plain.slope_rest(plane, one if word == "g" else [], one if word == "h" else []))
    return [[column.get((i, j), 0) for column in columns] for i in range(2 * m) for j in range(2 * n)]


def numbers_of(plane, row):
    """The numbers of the unknowns in a row."""
    terms = {"g": plain.spread(row[0]), "h": plain.spread(row[1])}
    return [terms[word].get((i, j), 0) for word, i, j in wanted_unknowns(plane)]


def times_row(factor, row):
    return plane_times([[factor]], row[0]), plane_times([[factor]], row[1])


def sum_row(one, two):
    return plane_sum(one[0], two[0]), plane_sum(one[1], two[1])


class TableTest(unittest.TestCase):

    def test_unknowns(self):
        for plane in SOME + [plane for plane, _ in GREAT]:
            self.assertEqual(unknowns(plane), wanted_unknowns(plane))
        self.assertEqual(unknowns([[0, 1], [1]]), [("g", 0, 0), ("g", 0, 1), ("h", 0, 0), ("h", 1, 0)])
        self.assertEqual(unknowns([[4], [2]]), [("g", 0, 0)])
        self.assertEqual({told.__class__ for told in unknowns(plane=TWIN)}, {tuple})

    def test_equations(self):
        dice = Dice(50)
        every = SOME + [plane for plane, _ in GREAT] + [dice.plane(dice.roll(1, 4), dice.roll(0, 4), 9)
                                                         for _ in range(20)]
        for plane in every:
            if is_clean(plane):
                self.assertEqual(slope_table(plane), wanted_table(plane), plane)

    def test_sizes(self):
        for plane, _ in KNOWN + GREAT:
            m, n = degrees(plane)
            table = slope_table(plane)
            self.assertEqual(len(table), 4 * m * n)
            for row in table:
                self.assertEqual(len(row), m * (n + 1) + (m + 1) * n)

    def test_without_y_the_table_has_no_row(self):
        for plane in (TWO, [[4], [2]], [[1], [], [], [], [1]], [[6], [-5], [1]]):
            m = len(plane) - 1
            self.assertEqual(slope_table(plane), [])
            self.assertEqual(unknowns(plane), [("g", i, 0) for i in range(m)])
            self.assertEqual(piece_count(plane), m)
            self.assertEqual(slope_rows(plane), [([[]] * i + [[1]], []) for i in range(m)])


class CountTest(unittest.TestCase):

    def test_products_of_known_ones(self):
        every = products()
        self.assertGreater(len(every), 150)
        for plane, many in every:
            self.assertEqual(piece_count(plane), many, plane)
        self.assertEqual({many for _, many in every}, {1, 2, 3, 4})

    def test_unlike_lines(self):
        for many in (1, 2, 3, 4):
            for shift in (0, 3):
                lines = [[[shift * k - k, -k * k], [1]] for k in range(many)]
                self.assertEqual(piece_count(plain.product(*lines)), many)

    def test_multiples(self):
        for plane, many in KNOWN:
            for factor in (-1, 6, -35):
                multiple = [[factor * number for number in line] for line in plane]
                self.assertEqual(piece_count(multiple), many)
                self.assertEqual(slope_rows(multiple), slope_rows(plane))
                self.assertEqual(slope_table(multiple),
                                 [[factor * number for number in row] for row in slope_table(plane)])

    def test_letters_do_not_matter(self):
        for plane, many in KNOWN:
            for change in ([1, 1, 0, 1, -1, 0], [1, 2, 3, 0, 1, -1], [2, 1, 0, 1, 0, 5]):
                other = changed(plane, change)
                if max(degrees(other)) <= 4 and is_clean(other):
                    self.assertEqual(piece_count(other), many, (plane, change))
            if is_clean(exchanged(plane)):
                self.assertEqual(piece_count(exchanged(plane)), many)

    def test_great_numbers(self):
        dice = Dice(51)
        one, two = dice.plane(2, 2, 999999), dice.plane(2, 2, 999999)
        self.assertEqual([piece_count(one), piece_count(two)], [1, 1])
        self.assertEqual(piece_count(plane_times(one, two)), 2)
        self.assertEqual(piece_count(dice.plane(4, 4, 999999)), 1)
        self.assertEqual(piece_count([[0, 0, -999983], [], [1]]), 2)
        self.assertEqual(piece_count([[0, 0, -999983], [1], [1]]), 1)

    def test_it_is_an_integer(self):
        self.assertIs(piece_count(plane=TWIN).__class__, int)


class SlopeRowsTest(unittest.TestCase):

    def check(self, plane):
        """What the points tell of the told rows, by fractions and by the equation itself."""
        m, n = degrees(plane)
        names, rows = wanted_unknowns(plane), slope_rows(plane)
        bound = plain.bound(wanted_table(plane), len(names))
        loose = [at for at in range(len(names)) if at not in bound]
        self.assertEqual(len(rows), len(loose))
        self.assertEqual(piece_count(plane), len(loose))
        for place, row in zip(loose, rows):
            self.assertIs(row.__class__, tuple)
            g, h = row
            self.assertEqual(plain.slope_rest(plane, g, h), {})
            self.assertTrue(degrees(g)[0] <= m - 1 and degrees(g)[1] <= n)
            self.assertTrue(degrees(h)[0] <= m and degrees(h)[1] <= n - 1)
            numbers = numbers_of(plane, row)
            self.assertGreater(numbers[place], 0)
            self.assertEqual([numbers[at] for at in loose if at != place], [0] * (len(loose) - 1))
            self.assertEqual(gcd(*numbers), 1)

    def test_told_rows(self):
        for plane in SOME:
            self.check(plane)
        for plane, _ in products()[::9]:
            self.check(plane)

    def test_told_ones(self):
        self.assertEqual(slope_rows([[0, -1], [1]]), [([[-1]], [[1]])])
        self.assertEqual(slope_rows(RING), [([[], [1]], [[0, 1]])])

    def test_the_rows_of_pieces_are_slope_rows(self):
        for (one, first), (two, second) in combinations(KNOWN, 2):
            both = plain.product(one, two)
            if max(degrees(both)) <= 4:
                row = (plane_times(two, slope_x(one)), plane_times(two, slope_y(one)))
                self.assertIs(is_slope_row(both, row), True)
                self.assertIs(is_slope_row(both, sum_row(row, row)), True)
                self.assertEqual(plain.bound([numbers_of(both, told) for told in slope_rows(both) + [row]],
                                             len(wanted_unknowns(both)))[first + second:], [])

    def test_is_slope_row(self):
        for plane in SOME:
            rows = slope_rows(plane)
            slopes = (slope_x(plane), slope_y(plane))
            for row in rows + [([], []), slopes, sum_row(rows[0], rows[-1]), times_row(-12, rows[0])]:
                self.assertIs(is_slope_row(plane, row), True)
                self.assertIs(is_slope_row(plane, as_tuples(row)), True)
                self.assertIs(is_slope_row(value=row, plane=plane), True)
                self.assertIs(is_slope_row(plane, list(row)), False)
                self.assertIs(is_slope_row(plane, row + ([],)), False)
                self.assertIs(is_slope_row(plane, row[:1]), False)

    def test_rows_with_another_number(self):
        for plane in SOME:
            m, n = degrees(plane)
            rows = slope_rows(plane)
            for word, i, j in wanted_unknowns(plane):
                one = plain.gathered({(i, j): 1})
                row = (plane_sum(rows[0][0], one), rows[0][1]) if word == "g" else (rows[0][0],
                                                                                   plane_sum(rows[0][1], one))
                self.assertIs(is_slope_row(plane, row), plain.slope_rest(plane, *row) == {})

    def test_what_holds_but_is_of_greater_degrees(self):
        for plane in SOME:
            for row in ((plane, []), ([], plane), (plane_times(plane, [[0, 1]]), plane_times(plane, [[], [1]]))):
                self.assertEqual(plain.slope_rest(plane, *row), {})
                self.assertIs(is_slope_row(plane, row), False)
        # Without y the equation lets nothing but numbers of g, and no h.
        for row in (([], [[1]]), ([[0, 1]], []), ([], [[0, 1]]), ([[], [], [1]], [])):
            self.assertIs(is_slope_row(TWO, row), False)

    def test_any_value(self):
        wrong = NOT_PLANES + [(part, []) for part in NOT_PLANES] + [([], part) for part in NOT_PLANES]
        wrong += [(), ([],), ([], [], []), [[], []], [], [[[1]], []], "ab"]
        check_judge(self, is_slope_row, wrong, TWIN)
        for value in wrong:
            self.assertIs(is_slope_row(TWIN, value), False, value)


class MinorTest(unittest.TestCase):

    def test_by_all_sequences(self):
        dice = Dice(52)
        for plane in [TWIN, RING, TILTED, TRIO, [[11, 1], [0, 1]]]:
            table, width = wanted_table(plane), len(wanted_unknowns(plane))
            for size in (1, 2, 3, 4, 5):
                for _ in range(12):
                    equations, places = [], []
                    while len(equations) < min(size, len(table), width):
                        at, place = dice.roll(0, len(table) - 1), dice.roll(0, width - 1)
                        if at not in equations and place not in places:
                            equations.append(at)
                            places.append(place)
                    wanted = plain.determinant([[table[at][place] for place in places] for at in equations])
                    self.assertEqual(minor(plane, equations, places), wanted)
                    self.assertEqual(minor(places=tuple(places), plane=plane, equations=tuple(equations)), wanted)

    def test_the_sequence_of_the_choice_matters(self):
        _, equations, places = count_paper(TILTED)
        whole = minor(TILTED, equations, places)
        self.assertNotEqual(whole, 0)
        self.assertEqual(minor(TILTED, [equations[1], equations[0]] + equations[2:], places), -whole)
        self.assertEqual(minor(TILTED, equations, places[:-2] + [places[-1], places[-2]]), -whole)
        self.assertEqual(minor(TILTED, equations[::-1], places[::-1]), whole)

    def test_of_none(self):
        for plane in SOME:
            self.assertEqual(minor(plane, [], []), 1)
            self.assertEqual(minor(plane, (), []), 1)

    def test_refused(self):
        for wrong in NOT_POSITIONS:
            refused_value(self, InvalidPositions, wrong, minor, TWIN, wrong, [0, 0])
            refused_value(self, InvalidPositions, wrong, minor, TWIN, equations=wrong, places=wrong)
            refused_value(self, InvalidPositions, wrong, minor, places=wrong, equations=[], plane=TWIN)
        for wrong in ([], [1], (0, 1, 2), [0, 12], [12, 13], list(range(12))):
            refused_value(self, InvalidPositions, wrong, minor, TWIN, [0, 1], wrong)

    def test_the_greatest_positions(self):
        for equations, places in (([15], [11]), ([0], [11]), ([15], [0])):
            self.assertEqual(minor(TWIN, equations, places), wanted_table(TWIN)[equations[0]][places[0]])
        refused_value(self, InvalidPositions, wrong := [16], minor, TWIN, wrong, [0])
        refused_value(self, InvalidPositions, wrong := [12], minor, TWIN, [0], wrong)
        # Without y there are no equations, but unknowns.
        refused_value(self, InvalidPositions, wrong := [0], minor, TWO, wrong, [0])
        refused_value(self, InvalidPositions, wrong := [0], minor, TWO, [], wrong)


class CountPaperTest(unittest.TestCase):

    def test_told_papers(self):
        for plane, many in products()[::7] + [(TWIN, 2), (TWO, 2)]:
            paper = count_paper(plane)
            rows, equations, places = paper
            self.assertEqual([part.__class__ for part in (paper, rows, equations, places)], [tuple, list, list, list])
            table, width = wanted_table(plane), len(wanted_unknowns(plane))
            self.assertEqual(len(plain.bound([numbers_of(plane, row) for row in rows], width)), many)
            for row in rows:
                self.assertEqual(plain.slope_rest(plane, *row), {})
            chosen = [[table[at][place] for place in places] for at in equations]
            self.assertEqual(len(plain.bound(chosen, width - many)), width - many)
            self.assertEqual((len(set(equations)), len(set(places))), (width - many, width - many))
            for other in range(21):
                self.assertIs(is_count_paper(plane, other, paper), other == many)
            self.assertIs(is_count_paper(plane, many, as_tuples(paper)), True)
            self.assertIs(is_count_paper(value=paper, many=many, plane=as_tuples(plane)), True)

    def test_other_papers(self):
        for plane, many in ((TWIN, 2), (TRIO, 3), (plain.product(TWIN, RING), 3), (TILTED, 1)):
            rows, equations, places = count_paper(plane)
            for paper in ((rows[::-1], equations, places), (rows, equations[::-1], places),
                          (rows, tuple(equations), places), (tuple(rows), equations, tuple(places)),
                          (rows, equations[1:] + equations[:1], places[::-1]),
                          ([times_row(-7, row) for row in rows], equations, places),
                          ([sum_row(row, rows[-1]) for row in rows], equations, places)):
                self.assertIs(is_count_paper(plane, many, paper), True)
            # The slopes are a sum of the told rows, so they may stand for one that this sum needs.
            slopes, width = (slope_x(plane), slope_y(plane)), len(wanted_unknowns(plane))
            for at in range(many):
                other = rows[:at] + [slopes] + rows[at + 1:]
                free = len(plain.bound([numbers_of(plane, row) for row in other], width)) == many
                self.assertIs(is_count_paper(plane, many, (other, equations, places)), free)

    def test_none(self):
        for plane, many in ((TWIN, 2), (TRIO, 3), (plain.product(TWIN, RING), 3)):
            rows, equations, places = count_paper(plane)
            table, width = slope_table(plane), len(unknowns(plane))
            other_place = [at for at in range(width) if at not in places][0]
            other_equation = [at for at in range(len(table)) if at not in equations][0]
            g, h = rows[0]
            wrong_rows = [rows[:-1], rows + [rows[0]], rows[:-1] + [rows[0]], rows[:-1] + [([], [])], [], (),
                          rows[:-1] + [times_row(5, rows[0])], [list(row) for row in rows], [(h, g)] + rows[1:],
                          [(plane_sum(g, [[1]]), h)] + rows[1:], [(plane, [])] + rows[1:], rows[1:] + [None],
                          rows[:-1] + [([True], [])], None, 5, "rows", {0: rows[0]}, [rows]]
            wrong_rows.append(rows[:-1] + [rows[0] if many == 2 else sum_row(rows[0], rows[1])])
            for wrong in wrong_rows:
                self.assertIs(is_count_paper(plane, many, (wrong, equations, places)), False, wrong)
            for wrong in wrong_rows[:7]:
                self.assertIs(is_count_paper(plane, many - 1, (wrong, equations, places)), False)
            wrong_lists = [[], equations[:-1], equations + [other_equation], equations[:-1] + [len(table)],
                           equations[:-1] + [-1], equations[:-1] + [equations[0]], equations[:-1] + [None],
                           [True if at == 1 else at for at in equations] if 1 in equations else [True], None, 3,
                           "01", {at: at for at in equations}, set(equations)]
            for wrong in wrong_lists:
                self.assertIs(is_count_paper(plane, many, (rows, wrong, places)), False, wrong)
            wrong_lists = [[], places[:-1], places + [other_place], places[:-1] + [width], places[:-1] + [-1],
                           places[:-1] + [places[0]], places[:-1] + [None], None, 3, "01", set(places),
                           {at: at for at in places}, [True] + places[1:], [False] + places[1:]]
            for wrong in wrong_lists:
                self.assertIs(is_count_paper(plane, many, (rows, equations, wrong)), False, wrong)
            both = (rows, equations[:-1], places[:-1])
            self.assertIs(is_count_paper(plane, many, both), False)
            self.assertIs(is_count_paper(plane, many, (rows, equations, places, [])), False)
            self.assertIs(is_count_paper(plane, many, (rows, equations)), False)
            self.assertIs(is_count_paper(plane, many, [rows, equations, places]), False)

    def test_minors_that_are_nought(self):
        for plane, many in ((TWIN, 2), (TRIO, 3), (TILTED, 1)):
            rows, equations, places = count_paper(plane)
            seen = set()
            others = [at for at in range(len(slope_table(plane))) if at not in equations]
            for at in range(len(equations)):
                for other in others:
                    changed_list = equations[:at] + [other] + equations[at + 1:]
                    whole = minor(plane, changed_list, places)
                    seen.add(whole == 0)
                    self.assertIs(is_count_paper(plane, many, (rows, changed_list, places)), whole != 0)
            self.assertIn(True, seen)

    def test_fewer_rows_with_a_greater_minor_or_more_rows_with_a_lesser_one(self):
        rows, equations, places = count_paper(TWIN)
        more = [at for at in range(12) if at not in places][0]
        for at in range(16):
            if at not in equations:
                self.assertIs(is_count_paper(TWIN, 1, (rows[:1], equations + [at], places + [more])), False)
        self.assertIs(is_count_paper(TWIN, 3, (rows + rows[:1], equations[:-1], places[:-1])), False)
        self.assertIs(is_count_paper(TWIN, 3, (rows + [sum_row(*rows)], equations[:-1], places[:-1])), False)
        self.assertIs(is_count_paper(TWO, 0, ([], [], [])), False)
        self.assertIs(is_count_paper([[4], [2]], 1, ([([[3]], [])], [], [])), True)
        self.assertIs(is_count_paper([[4], [2]], 0, ([], [], [])), False)

    def test_any_value(self):
        wrong = NOT_PLANES + [(value, [], []) for value in NOT_PLANES[:20]] + [([], value, []) for value in STRANGE]
        check_judge(self, is_count_paper, wrong, TWIN, 2)
        for value in wrong:
            self.assertIs(is_count_paper(TWIN, 2, value), False)


class ConventionsTest(unittest.TestCase):

    def calls(self, plane):
        """Each function with this plane and with what is let behind it."""
        return ([(function, [plane]) for function in ONE_PLANE] +
                [(is_slope_row, [plane, ([], [])]), (minor, [plane, [], []]), (is_count_paper, [plane, 1, None])])

    def test_parameters(self):
        plane = ("plane", TWIN, NOT_PLANES, InvalidPlane)
        many = ("many", 2, NOT_INTEGERS + [-1, -10 ** 29, 21, 22, 10 ** 29], InvalidMany)
        for function in ONE_PLANE:
            check_parameters(self, function, [plane])
        check_parameters(self, minor, [plane, ("equations", [0, 1], NOT_POSITIONS, InvalidPositions),
                                       ("places", (1, 0), NOT_POSITIONS, InvalidPositions)])
        for value in (([], []), None, 7):
            check_parameters(self, is_slope_row, [plane, ("value", value, [], None)])
        for value in (count_paper(TWIN), None, [1]):
            check_parameters(self, is_count_paper, [plane, many, ("value", value, [], None)])
        for let in range(21):
            self.assertIs(is_count_paper(TWIN, let, None), False)

    def test_not_clean(self):
        for plane in NOT_CLEAN:
            for function, given in self.calls(plane):
                refused(self, NotClean, function, *given)
            refused(self, NotClean, minor, plane, None, [0, 0])
            refused(self, NotClean, is_slope_row, as_tuples(plane), None)

    def test_degrees_above_four(self):
        for _, plane in NOT_TABLED:
            for function, given in self.calls(plane):
                refused_limit(self, "degree", 4, function, *given)
            refused_limit(self, "degree", 4, minor, plane, None, [0, 0])
            refused_limit(self, "degree", 4, is_slope_row, as_tuples(plane), None)
        for plane, _ in GREAT:
            for function, given in self.calls(plane):
                function(*given)

    def test_a_wrong_many_comes_ahead_of_the_errors_of_state(self):
        for plane in NOT_CLEAN + [plane for _, plane in NOT_TABLED]:
            for wrong in (True, -1, 21, None, "2"):
                refused_value(self, InvalidMany, wrong, is_count_paper, plane, wrong, None)

    def test_judges_return_a_bool(self):
        rows = slope_rows(TWIN)
        check_judge(self, is_slope_row, rows + [([], []), ([[1]], []), None], TWIN)
        check_judge(self, is_count_paper, [count_paper(TWIN), count_paper(RING), (rows, [], [])], TWIN, 2)

    def test_what_is_passed_stays_and_what_is_returned_is_new(self):
        for plane in SOME:
            for function in ONE_PLANE:
                wanted = check_call(self, function, [plane])
                self.assertEqual(check_call(self, function, [as_tuples(plane)]), wanted)
            row = slope_rows(plane)[0]
            paper = count_paper(plane)
            check_call(self, is_slope_row, [plane, row])
            check_call(self, is_slope_row, [as_tuples(plane), as_tuples(row)])
            check_call(self, is_count_paper, [plane, piece_count(plane), paper])
            check_call(self, minor, [plane, paper[1], paper[2]])
            before = copy.deepcopy(paper)
            is_count_paper(plane, 3, paper)
            self.assertEqual(exactly(paper), exactly(before))


if __name__ == "__main__":
    unittest.main()
