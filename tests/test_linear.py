"""[2] to [7]: matrices, against an elimination that the tests have of their own."""

import unittest
from fractions import Fraction
from random import Random

from planeworth.errors import BadNumber, NoAnswer, NotMatrix
from planeworth.linear import (check_matrix, clash, determinant, echelon, inverse, kernel, matrix_product, rank,
                               solution)
from tests.helpers import (BIG, NO_NUMBERS, Refusals, determinant_by_orders, dot, fractions, pair, pairs, pivots_of,
                           reduced)


def numbers_matrix(rows):
    return [pairs(*row) for row in rows]


def as_fractions(rows):
    return [fractions(row) for row in rows]


def random_rows(draw, height, width, dense):
    """Rows of which some are 0, some are sums of multiples of others, some have long integers."""
    rows = []
    for _ in range(height):
        kind = draw.random()
        if kind < 0.15:
            rows.append([Fraction(0)] * width)
        elif kind < 0.4 and rows:
            row = [Fraction(0)] * width
            for other in rows:
                factor = Fraction(draw.randint(-2, 2), draw.randint(1, 3))
                row = [x + factor * y for x, y in zip(row, other)]
            rows.append(row)
        elif kind < 0.5:
            rows.append([Fraction(draw.randint(-BIG, BIG), draw.randint(1, 9)) for _ in range(width)])
        else:
            rows.append([Fraction(draw.randint(-4, 4), draw.randint(1, 4)) if draw.random() < dense else Fraction(0)
                         for _ in range(width)])
    return rows


def matrices():
    """Pairs of a width and rows of fractions: of all small shapes, and the told cases."""
    draw = Random(7)
    told = [(0, []), (0, [[], []]), (3, []), (3, [[Fraction(0)] * 3]), (2, [[Fraction(1), 2], [2, Fraction(4)]])]
    for height in range(6):
        for width in range(6):
            for dense in (0.3, 0.9):
                told.append((width, random_rows(draw, height, width, dense)))
    return told


MATRICES = matrices()
TAKE_A_MATRIX = {
    "check_matrix": check_matrix, "echelon": echelon, "rank": rank, "kernel": kernel,
    "solution": lambda width, rows: solution(width, rows, None),
    "clash": lambda width, rows: clash(width, rows, None),
    "determinant": determinant, "inverse": inverse,
    "first of a product": lambda width, rows: matrix_product(width, rows, 99, [((2, 4),)]),
    "second of a product": lambda width, rows: matrix_product(7, [], width, rows),
}


class TestCheckMatrix(unittest.TestCase, Refusals):

    def test_shapes_that_are_allowed(self):
        for width, height in ((0, 0), (0, 64), (64, 0), (64, 64), (64, 1), (1, 64), (3, 2)):
            self.assertIsNone(check_matrix(width, [pairs(*[1] * width)] * height))
            self.assertIsInstance(rank(width, [pairs(*[1] * width)] * height), int)

    def test_widths_that_are_not(self):
        for name, call in TAKE_A_MATRIX.items():
            for width in (-1, 65, 66, 1000, -64):
                for rows in ([], [pairs(1)] * 65, [((2, 4),)], [pairs(*[1] * max(width, 0))]):
                    with self.subTest(name, width=width):
                        self.told(BadNumber, call, width, rows)

    def test_too_many_rows(self):
        for name, call in TAKE_A_MATRIX.items():
            for width in (0, 1, 2, 64):
                with self.subTest(name, width=width):
                    self.told(NotMatrix, call, width, [pairs(*[0] * width)] * 65)

    def test_rows_of_another_width(self):
        for name, call in TAKE_A_MATRIX.items():
            for rows in ([pairs(1)], [pairs(1, 2), pairs(1, 2, 3)], [()], [pairs(1, 2), pairs(1)]):
                with self.subTest(name):
                    self.told(NotMatrix, call, 2, rows)
            self.told(NotMatrix, call, 0, [pairs(1)])

    def test_pairs_that_are_no_numbers(self):
        for name, call in TAKE_A_MATRIX.items():
            for x in NO_NUMBERS:
                with self.subTest(name, pair=x):
                    self.told(NotMatrix, call, 2, [((1, 1), x), pairs(0, 1)])
                    self.told(NotMatrix, call, 2, [pairs(0, 1), (x, (1, 1))])


class TestEchelon(unittest.TestCase):

    def test_it_is_the_echelon_form(self):
        for width, rows in MATRICES:
            told = echelon(width, numbers_matrix(rows))
            self.assertIsInstance(told, list)
            self.assertTrue(all(isinstance(row, tuple) for row in told))
            self.assertEqual(as_fractions(told), reduced(rows))
            self.assertEqual(rank(width, numbers_matrix(rows)), len(told))

    def test_the_form_of_the_answer(self):
        for width, rows in MATRICES:
            told = as_fractions(echelon(width, numbers_matrix(rows)))
            places = pivots_of(told)
            self.assertEqual(places, sorted(set(places)))
            for k, place in enumerate(places):
                self.assertEqual([row[place] for row in told], [Fraction(j == k) for j in range(len(told))])

    def test_it_stays_when_rows_are_changed(self):
        draw = Random(3)
        for width, rows in MATRICES:
            told = echelon(width, numbers_matrix(rows))
            multiplied = [Fraction(draw.choice((-3, 2, BIG)), draw.choice((1, 5, 7))) for _ in rows]
            scaled = [[factor * x for x in row] for factor, row in zip(multiplied, rows)]
            self.assertEqual(echelon(width, numbers_matrix(scaled)), told)
            added = [list(row) for row in rows]
            for k in range(1, len(added)):
                added[k] = [x - 3 * y for x, y in zip(added[k], added[k - 1])]
            self.assertEqual(echelon(width, numbers_matrix(added)), told)
            shuffled = draw.sample(rows, len(rows))
            self.assertEqual(echelon(width, numbers_matrix(shuffled)), told)
            self.assertEqual(echelon(width, numbers_matrix(rows + rows)), told)
            self.assertEqual(echelon(width, told), told)

    def test_rank_with_rows_and_columns_exchanged(self):
        for width, rows in MATRICES:
            columns = [[row[k] for row in rows] for k in range(width)]
            self.assertEqual(rank(len(rows), numbers_matrix(columns)), rank(width, numbers_matrix(rows)))

    def test_example(self):
        rows = numbers_matrix([(1, 2), (2, 4)])
        self.assertEqual(echelon(2, rows), [pairs(1, 2)])
        self.assertEqual(rank(2, rows), 1)
        self.assertEqual(kernel(2, rows), [pairs(-2, 1)])
        self.assertEqual(solution(2, rows, pairs(3, 6)), pairs(3, 0))
        self.assertEqual(clash(2, rows, pairs(3, 7)), pairs(-2, 1))

    def test_large_matrices(self):
        draw = Random(11)
        rows = [[draw.randint(-9, 9) for _ in range(64)] for _ in range(40)]
        rows += [[x + y for x, y in zip(rows[k], rows[k + 1])] for k in range(24)]
        matrix = numbers_matrix(rows)
        self.assertEqual(rank(64, matrix), 40)
        self.assertEqual(len(kernel(64, matrix)), 24)


class TestKernel(unittest.TestCase):

    def test_form_and_products(self):
        for width, rows in MATRICES:
            basis = kernel(width, numbers_matrix(rows))
            self.assertIsInstance(basis, list)
            free = [k for k in range(width) if k not in pivots_of(reduced(rows))]
            self.assertEqual(len(basis), len(free))
            for row, place in zip(basis, free):
                told = fractions(row)
                self.assertIsInstance(row, tuple)
                self.assertEqual([told[k] for k in free], [Fraction(k == place) for k in free])
                self.assertTrue(all(dot(told, other) == 0 for other in rows))

    def test_no_rows_and_no_places(self):
        self.assertEqual(kernel(2, []), [pairs(1, 0), pairs(0, 1)])
        self.assertEqual(kernel(0, []), [])
        self.assertEqual(kernel(0, [()]), [])


class TestSolutionAndClash(unittest.TestCase, Refusals):

    def check(self, width, rows, wanted):
        """One of both answers, the one that [5] tells; returns which."""
        matrix = numbers_matrix(rows)
        numbers = pairs(*wanted)
        free = [k for k in range(width) if k not in pivots_of(reduced(rows))]
        solvable = len(reduced([list(row) + [x] for row, x in zip(rows, wanted)])) == len(reduced(rows))
        if solvable:
            told = fractions(solution(width, matrix, numbers))
            self.assertEqual([dot(row, told) for row in rows], list(wanted))
            self.assertEqual(len(told), width)
            self.assertTrue(all(told[k] == 0 for k in free))
            self.told(NoAnswer, clash, width, matrix, numbers)
        else:
            self.told(NoAnswer, solution, width, matrix, numbers)
            told = fractions(clash(width, matrix, numbers))
            self.assertEqual(len(told), len(rows))
            self.assertTrue(all(dot(told, [row[k] for row in rows]) == 0 for k in range(width)))
            self.assertEqual(dot(told, wanted), 1)
            lines = [[row[k] for row in rows] for k in range(width)] + [list(wanted)]
            places = pivots_of(reduced(lines))
            self.assertTrue(all(told[k] == 0 for k in range(len(rows)) if k not in places))
        return solvable

    def test_exactly_one_of_both(self):
        draw = Random(5)
        kinds = []
        for width, rows in MATRICES:
            for _ in range(3):
                wanted = [Fraction(draw.randint(-3, 3), draw.randint(1, 3)) for _ in rows]
                kinds.append(self.check(width, rows, wanted))
            point = [Fraction(draw.randint(-3, 3), draw.randint(1, 3)) for _ in range(width)]
            self.assertTrue(self.check(width, rows, [dot(row, point) for row in rows]))
        self.assertGreater(kinds.count(True), 20)
        self.assertGreater(kinds.count(False), 20)

    def test_no_rows_and_no_places(self):
        self.assertEqual(solution(2, [], ()), pairs(0, 0))
        self.assertEqual(solution(0, [], ()), ())
        self.assertEqual(solution(0, [()], pairs(0)), ())
        self.assertEqual(clash(0, [(), ()], pairs(0, 2)), pairs(0, "1/2"))
        self.told(NoAnswer, clash, 2, [], ())

    def test_the_largest_clash(self):
        rows = [pairs(*[int(k == j) for j in range(64)]) for k in range(63)]
        rows.append(pairs(*[int(j < 63) for j in range(64)]))
        self.assertEqual(clash(64, rows, pairs(*[0] * 63 + [1])), pairs(*[-1] * 63 + [1]))

    def test_wanted_numbers_that_are_wrong(self):
        rows = numbers_matrix([(1, 2), (2, 4)])
        wrong = [(), pairs(1), pairs(1, 2, 3), [(3, 1), (6, 1)], [(3, 1), (7, 1)]]
        wrong += [((1, 1), x) for x in NO_NUMBERS] + [(x, (1, 1)) for x in NO_NUMBERS]
        for wanted in wrong:
            for call in (solution, clash):
                with self.subTest(call.__name__, wanted=wanted):
                    self.told(NotMatrix, call, 2, rows, wanted)


class TestDeterminantAndInverse(unittest.TestCase, Refusals):

    def squares(self):
        draw = Random(13)
        return [random_rows(draw, size, size, dense) for size in range(6) for dense in (0.5, 1) for _ in range(5)]

    def test_against_the_sum_over_all_orders(self):
        for rows in self.squares():
            told = determinant(len(rows), numbers_matrix(rows))
            self.assertEqual(told, pair(determinant_by_orders(rows)))

    def test_without_rows(self):
        self.assertEqual(determinant(0, []), (1, 1))
        self.assertEqual(inverse(0, []), [])

    def test_of_a_product(self):
        squares = self.squares()
        for one, other in zip(squares, squares[1:]):
            if len(one) == len(other):
                size = len(one)
                both = matrix_product(size, numbers_matrix(one), size, numbers_matrix(other))
                a, b, c = (Fraction(*determinant(size, m)) for m in (numbers_matrix(one), numbers_matrix(other), both))
                self.assertEqual(a * b, c)

    def test_large_width(self):
        draw = Random(17)
        order = list(range(64))
        for k in range(0, 62, 3):
            order[k], order[k + 1] = order[k + 1], order[k]
        lower = [[draw.randint(-3, 3) if j < k else int(j == k) for j in range(64)] for k in range(64)]
        upper = [[draw.randint(-3, 3) if j > k else 2 * int(j == k) for j in range(64)] for k in range(64)]
        rows = matrix_product(64, numbers_matrix(lower), 64, numbers_matrix(upper))
        rows = [rows[k] for k in order]
        self.assertEqual(determinant(64, rows), ((-1) ** 21 * 2 ** 64, 1))
        back = inverse(64, rows)
        self.assertEqual(matrix_product(64, rows, 64, back),
                         [pairs(*[int(k == j) for j in range(64)]) for k in range(64)])
        rows[63] = rows[0]
        self.assertEqual(determinant(64, rows), (0, 1))
        self.told(NoAnswer, inverse, 64, rows)

    def test_inverse_with_both_products(self):
        seen = 0
        for rows in self.squares():
            size = len(rows)
            matrix = numbers_matrix(rows)
            if determinant_by_orders(rows) == 0:
                self.told(NoAnswer, inverse, size, matrix)
                continue
            seen += 1
            back = inverse(size, matrix)
            unit = [pairs(*[int(k == j) for j in range(size)]) for k in range(size)]
            self.assertIsInstance(back, list)
            self.assertEqual(matrix_product(size, matrix, size, back), unit)
            self.assertEqual(matrix_product(size, back, size, matrix), unit)
        self.assertGreater(seen, 10)

    def test_not_square(self):
        for width, height in ((0, 1), (1, 0), (2, 3), (3, 2)):
            rows = [pairs(*[0] * width)] * height
            self.told(NotMatrix, determinant, width, rows)
            self.told(NotMatrix, inverse, width, rows)


class TestProduct(unittest.TestCase, Refusals):

    def test_products(self):
        draw = Random(19)
        for _ in range(40):
            height, width, other_width = (draw.randint(0, 4) for _ in range(3))
            one = random_rows(draw, height, width, 0.8)
            other = random_rows(draw, width, other_width, 0.8)
            told = matrix_product(width, numbers_matrix(one), other_width, numbers_matrix(other))
            want = [[dot(row, [line[k] for line in other]) for k in range(other_width)] for row in one]
            self.assertEqual(told, numbers_matrix(want))
            self.assertIsInstance(told, list)

    def test_order_of_errors(self):
        good, wide, wrong = [pairs(1, 2)], [pairs(1, 2, 3)], [((2, 4), (1, 1))]
        self.told(BadNumber, matrix_product, 65, wrong, -1, wrong)
        self.told(NotMatrix, matrix_product, 2, wrong, -1, wrong)
        self.told(BadNumber, matrix_product, 2, good, -1, wrong)
        self.told(BadNumber, matrix_product, 2, good, 65, good)
        self.told(NotMatrix, matrix_product, 2, good, 2, wrong)
        self.told(NotMatrix, matrix_product, 2, good, 3, wide)
        self.told(NotMatrix, matrix_product, 2, good, 3, wide * 3)
        self.assertEqual(matrix_product(2, good, 3, wide * 2), [pairs(3, 6, 9)])


class TestArgumentsStay(unittest.TestCase):

    def test_nothing_is_modified_or_shared(self):
        rows = numbers_matrix([(2, 4), (1, 3)])
        kept = list(rows)
        for call in (echelon, rank, kernel, determinant, inverse):
            call(2, rows)
            self.assertEqual(rows, kept)
        solution(2, rows, pairs(1, 2))
        matrix_product(2, rows, 2, rows)
        self.assertEqual(rows, kept)
        unit = [pairs(1, 0), pairs(0, 1)]
        for told in (echelon(2, unit), inverse(2, unit), matrix_product(2, unit, 2, unit)):
            self.assertEqual(told, unit)
            told.append(())
            self.assertEqual(len(unit), 2)


if __name__ == "__main__":
    unittest.main()
