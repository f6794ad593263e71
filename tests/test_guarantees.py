"""The guarantees, each over the whole program: what one file tells is what the others tell."""

import unittest

from curvepieces.claims import is_paper_of, is_true, paper_of
from curvepieces.curves import curve_degree
from curvepieces.desk import Desk
from curvepieces.equations import drawn, equation
from curvepieces.followers import by_pair, follower_count, follower_degrees, followers
from curvepieces.fracparts import fraction_parts, part_lines
from curvepieces.guards import is_good, least_good, prime_bound
from curvepieces.numbers import is_prime
from curvepieces.pieces import is_piece, pieces, product_over
from curvepieces.planeparts import is_clean
from curvepieces.planes import degrees, plain_plane
from curvepieces.products import own_line, parting_row
from curvepieces.residues import count_modulo, is_clean_modulo, plane_modulo
from curvepieces.slopes import count_paper, is_count_paper, piece_count, slope_rows, slope_table, unknowns
from curvepieces.texts import curve_text, line_text, plane_text
from tests import plain
from tests.samples import FEW, SAMPLES
from tests.support import Dice
from tests.test_equations import ALL as CURVES
from tests.test_followers import plus, times

SOME = FEW + [(plane, sum(many for _, many in parts)) for plane, parts in SAMPLES[::12]]


def text_of(written):
    """The written text as a command takes it."""
    return written.replace(" ", "")


class CountTest(unittest.TestCase):

    def test_as_many_pieces_as_free_solutions(self):
        for plane, many in SOME:
            width = len(unknowns(plane))
            self.assertEqual(piece_count(plane), many)
            self.assertEqual(len(slope_rows(plane)), many)
            self.assertEqual(width - len(plain.bound(slope_table(plane), width)), many)
            self.assertEqual(sum(parts for _, parts in fraction_parts(plane)), many)
            for told in range(9):
                self.assertIs(is_true(("pieces", plane, told)), told == many)
                self.assertIs(is_paper_of(("pieces", plane, told), count_paper(plane)), told == many)
            self.assertIs(is_count_paper(plane, many, paper_of(("pieces", plane, many))), True)


class PiecesTest(unittest.TestCase):

    def test_the_pieces_make_the_polynomial(self):
        for plane, many in SOME[::2]:
            found = pieces(plane)
            self.assertEqual([root for root, _ in found], part_lines(plane))
            self.assertEqual(plain.times_all([root for root, _ in found]), own_line(plane, parting_row(plane)))
            self.assertEqual(sum(len(root) - 1 for root, _ in found), many)
            products = [product_over(root, rows) for root, rows in found]
            self.assertEqual(plain.product(*products), plain_plane(plane))
            self.assertEqual(sorted(products), [part for part, _ in fraction_parts(plane)])
            for piece, product in zip(found, products):
                self.assertIs(is_piece(plane, piece), True)
                self.assertIs(is_piece(product, piece), True)
                self.assertEqual(piece_count(product), len(piece[0]) - 1)
                self.assertIs(is_true(("whole", product)), True)
                self.assertIs(is_true(("within", plane, product)), True)


class PrimesTest(unittest.TestCase):

    def test_modulo_good_primes_the_count_is_the_same(self):
        for plane, many in SOME[::2]:
            least, seen = least_good(plane), 0
            for prime in [number for number in range(2, 150) if is_prime(number)] + [9967, 9973]:
                good = is_good(plane, prime)
                self.assertFalse(good and prime < least)
                if good:
                    seen += 1
                    self.assertGreater(prime, prime_bound(plane))
                    self.assertIs(is_clean_modulo(plane, prime), True)
                    self.assertEqual(degrees(plane_modulo(plane, prime)), degrees(plane))
                    self.assertEqual(count_modulo(plane, prime), many)
            self.assertGreater(seen, 10)


class FollowersTest(unittest.TestCase):

    def test_each_follower_in_one_way(self):
        dice = Dice(210)
        for curve in CURVES:
            pair = first, second = followers(curve)
            lesser, greater = follower_degrees(curve)
            self.assertEqual(lesser + greater, curve_degree(curve))
            self.assertEqual(follower_count(curve, lesser) > 0, True)
            self.assertEqual(follower_count(curve, lesser - 1) if lesser else 0, 0)
            one, two = dice.line(dice.roll(-1, 8 - lesser), 9), dice.line(dice.roll(-1, 8 - greater), 9)
            self.assertEqual(by_pair(curve, pair, plus(times(one, first), times(two, second))), (1, one, two))
            self.assertIs(is_paper_of(("degrees", curve, lesser), pair), True)


class TwoRoadsTest(unittest.TestCase):

    def test_the_equation_is_one_piece(self):
        seen = 0
        for curve in CURVES:
            plane, letters = form = equation(curve)
            self.assertEqual(letters * drawn(curve), curve_degree(curve))
            self.assertIs(is_true(("along", curve, form)), True)
            if is_clean(plane) and max(degrees(plane)) <= 4:
                seen += 1
                self.assertEqual(piece_count(plane), 1)
                self.assertEqual(fraction_parts(plane), [(plane, 1)])
        self.assertGreater(seen, 20)


class DeskTest(unittest.TestCase):

    def test_a_desk_tells_what_the_functions_tell(self):
        for plane, many in FEW:
            desk = Desk()
            desk.do("plane p " + text_of(plane_text(plane)))
            self.assertEqual(desk["p"], plane)
            self.assertEqual(desk("pieces p"), str(many))
            self.assertEqual(desk("parts p"), ",".join(str(parts) for _, parts in fraction_parts(plane)))
            self.assertEqual(desk("good p " + str(least_good(plane))), "yes")
            self.assertEqual(desk(f"claim k pieces p {many}"), "k true")
            desk.attach("k", count_paper(plane))
            self.assertIs(desk.fits("k"), True)
            desk.do("parting l p")
            self.assertEqual(desk("show l"), line_text(own_line(plane, parting_row(plane))))

    def test_a_curve_on_a_desk(self):
        for curve in CURVES[:16]:
            desk, (plane, letters) = Desk(), equation(curve)
            desk.do("curve c " + text_of(curve_text(curve)))
            desk.do_all("equation e c", "line n 3t-2")
            self.assertEqual((desk["c"], desk["e"], desk("passes c")), (curve, plane, str(drawn(curve))))
            self.assertEqual(desk(f"claim k along c e {letters}"), "k true")
            # By another time it stays on its equation.
            self.assertEqual(desk("lead c n"), "-")
            desk.do_all("equation f c")
            self.assertEqual((desk("same e f"), desk("state k")), ("yes", "true"))


if __name__ == "__main__":
    unittest.main()
