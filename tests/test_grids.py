import copy
import itertools
import math
import random
import unittest
from fractions import Fraction

from rimread.errors import NoAnswer
from rimread.fractions import fraction
from rimread.grids import determinant, multiplied, solved

SIXTY = 10 ** 60 - 1
PRIME = 2 ** 521 - 1


def wholes(rows):
    return [[(entry, 1) for entry in row] for row in rows]


def pair(number):
    return (number.numerator, number.denominator)


def some_grid(dice, rows, columns, most):
    return [[fraction(dice.randint(-most, most), dice.randint(1, most)) for j in range(columns)] for i in range(rows)]


def unit_grid(count):
    return wholes([[1 if i == j else 0 for j in range(count)] for i in range(count)])


def product_by_hand(grid, other, columns):
    product = []
    for row in grid:
        sums = []
        for j in range(columns):
            sums.append(pair(sum([Fraction(*row[k]) * Fraction(*other[k][j]) for k in range(len(row))], Fraction(0))))
        product.append(sums)
    return product


def determinant_by_orders(grid):
    total = Fraction(0)
    count = len(grid)
    for order in itertools.permutations(range(count)):
        crossings = sum(1 for i in range(count) for j in range(i) if order[j] > order[i])
        total += (-1) ** crossings * math.prod([Fraction(*grid[i][order[i]]) for i in range(count)])
    return pair(total)


def rest_of(entry):
    return entry[0] * pow(entry[1], -1, PRIME) % PRIME


def determinant_rest(grid):
    rows = [[rest_of(entry) for entry in row] for row in grid]
    found = 1
    for k in range(len(rows)):
        i = next(i for i in range(k, len(rows)) if rows[i][k] != 0)
        if i != k:
            rows[k], rows[i] = rows[i], rows[k]
            found = -found
        found = found * rows[k][k] % PRIME
        turned = pow(rows[k][k], -1, PRIME)
        for i in range(k + 1, len(rows)):
            share = rows[i][k] * turned
            rows[i] = [(one - share * other) % PRIME for one, other in zip(rows[i], rows[k])]
    return found % PRIME


class GridTest(unittest.TestCase):
    def check_kind(self, grid):
        self.assertIs(type(grid), list)
        for row in grid:
            self.assertIs(type(row), list)
            for entry in row:
                self.assertIs(type(entry), tuple)
                self.assertEqual([type(part) for part in entry], [int, int])
                self.assertEqual(entry, pair(Fraction(*entry)))


class DeterminantTest(GridTest):
    def test_no_rows(self):
        self.assertEqual(determinant([]), (1, 1))

    def test_one_row(self):
        for entry in ((0, 1), (1, 1), (-5, 3), (SIXTY, SIXTY - 1)):
            self.assertEqual(determinant([[entry]]), entry)

    def test_written_out(self):
        self.assertEqual(determinant(wholes([[1, 2], [3, 4]])), (-2, 1))
        self.assertEqual(determinant(wholes([[3, 4], [1, 2]])), (2, 1))
        self.assertEqual(determinant([[(1, 2), (1, 3)], [(1, 4), (1, 5)]]), (1, 60))
        self.assertEqual(determinant(wholes([[2, 0, 1], [1, 3, 2], [1, 1, 4]])), (18, 1))
        self.assertIs(type(determinant(wholes([[1, 2], [3, 4]]))), tuple)

    def test_noughts_in_the_diagonal(self):
        self.assertEqual(determinant(wholes([[0, 1], [1, 0]])), (-1, 1))
        self.assertEqual(determinant(wholes([[0, 1, 0], [0, 0, 1], [1, 0, 0]])), (1, 1))
        self.assertEqual(determinant(wholes([[0, 0, 2], [0, 3, 0], [5, 0, 0]])), (-30, 1))
        self.assertEqual(determinant(wholes([[1, 2, 3], [2, 4, 5], [3, 5, 6]])), (-1, 1))

    def test_nought(self):
        self.assertEqual(determinant([[(1, 2), (2, 3)], [(1, 2), (2, 3)]]), (0, 1))
        self.assertEqual(determinant(wholes([[1, 2, 3], [4, 5, 6], [1, 2, 3]])), (0, 1))
        self.assertEqual(determinant(wholes([[1, 2, 3], [0, 0, 0], [4, 5, 6]])), (0, 1))
        self.assertEqual(determinant(wholes([[0, 2], [0, 4]])), (0, 1))
        self.assertEqual(determinant(wholes([[0, 0], [0, 0]])), (0, 1))
        self.assertEqual(determinant(wholes([[1, 2, 3], [4, 5, 6], [7, 8, 9]])), (0, 1))

    def test_against_all_orders(self):
        dice = random.Random(5)
        for count in range(7):
            for most in (1, 3, 9, SIXTY):
                for again in range(1 if count > 5 else 6):
                    grid = some_grid(dice, count, count, most)
                    with self.subTest(grid=grid):
                        self.assertEqual(determinant(grid), determinant_by_orders(grid))

    def test_sixteen_rows(self):
        grid = [[(1, i + j + 1) for j in range(16)] for i in range(16)]
        near = math.prod([math.factorial(k) for k in range(16)])
        far = math.prod([math.factorial(k) for k in range(32)])
        self.assertEqual(determinant(grid), pair(Fraction(near ** 4, far)))

    def test_sixteen_rows_with_a_row_twice(self):
        grid = [[(1, i + j + 1) for j in range(16)] for i in range(16)]
        grid[15] = list(grid[3])
        self.assertEqual(determinant(grid), (0, 1))

    def test_sixteen_rows_of_sixty_figures(self):
        grid = some_grid(random.Random(6), 16, 16, SIXTY)
        told = determinant(grid)
        self.assertEqual(rest_of(told), determinant_rest(grid))
        self.assertEqual(math.gcd(told[0], told[1]), 1)
        self.assertGreater(told[1], 0)


class SolvedTest(GridTest):
    def test_one_column(self):
        self.assertEqual(solved(wholes([[1, 2], [3, 4]]), wholes([[5], [6]])), [[(-4, 1)], [(9, 2)]])

    def test_several_columns(self):
        told = solved(wholes([[1, 2], [3, 5]]), wholes([[1, 0, 4], [0, 1, 7]]))
        self.assertEqual(told, wholes([[-5, 2, -6], [3, -1, 5]]))

    def test_as_many_columns_as_rows(self):
        grid = wholes([[1, 1], [0, 1]])
        other = wholes([[1, 2], [3, 4]])
        self.assertEqual(solved(grid, other), wholes([[-2, -2], [3, 4]]))

    def test_one_row(self):
        self.assertEqual(solved([[(2, 3)]], [[(1, 1), (0, 1), (-5, 7)]]), [[(3, 2), (0, 1), (-15, 14)]])

    def test_no_rows(self):
        self.assertEqual(solved([], []), [])

    def test_rows_without_fractions(self):
        self.assertEqual(solved(wholes([[1, 2], [3, 4]]), [[], []]), [[], []])
        # There is just one grid of two rows without fractions: it is the answer here, too.
        self.assertEqual(solved(wholes([[1, 2], [2, 4]]), [[], []]), [[], []])

    def test_none(self):
        for grid, other in (
            (wholes([[0]]), wholes([[1]])),
            (wholes([[1, 2], [2, 4]]), wholes([[1], [3]])),
            (wholes([[1, 2], [2, 4]]), wholes([[1, 1], [2, 3]])),
            (wholes([[0, 0], [0, 0]]), wholes([[0], [1]])),
        ):
            with self.subTest(grid=grid, other=other):
                with self.assertRaises(NoAnswer):
                    solved(grid, other)

    def test_more_than_one(self):
        for grid, other in (
            (wholes([[0]]), wholes([[0]])),
            (wholes([[1, 2], [2, 4]]), wholes([[1], [2]])),
            (wholes([[1, 2], [2, 4]]), wholes([[1, 3], [2, 6]])),
            (wholes([[0, 1], [0, 2]]), wholes([[1], [2]])),
            (wholes([[1, 2, 3], [4, 5, 6], [5, 7, 9]]), wholes([[0], [0], [0]])),
        ):
            with self.subTest(grid=grid, other=other):
                with self.assertRaises(NoAnswer):
                    solved(grid, other)

    def test_nought_at_the_first_place(self):
        self.assertEqual(solved(wholes([[0, 1], [1, 0]]), wholes([[2], [3]])), wholes([[3], [2]]))
        self.assertEqual(solved(wholes([[0, 2], [4, 1]]), wholes([[2, 4], [9, 6]])), wholes([[2, 1], [1, 2]]))
        self.assertEqual(
            solved(wholes([[0, 1, 0], [0, 0, 1], [1, 0, 0]]), wholes([[1], [2], [3]])), wholes([[3], [1], [2]])
        )

    def test_makes_the_other_one(self):
        dice = random.Random(7)
        for rows in range(1, 7):
            for columns in (1, 2, 5, 16):
                for most in (2, 9, SIXTY):
                    grid = some_grid(dice, rows, rows, most)
                    other = some_grid(dice, rows, columns, most)
                    if determinant_by_orders(grid) == (0, 1):
                        with self.assertRaises(NoAnswer):
                            solved(grid, other)
                        continue
                    told = solved(grid, other)
                    self.check_kind(told)
                    self.assertEqual(len(told), rows)
                    self.assertEqual(product_by_hand(grid, told, columns), other)

    def test_sixteen_rows(self):
        grid = [[(1, i + j + 1) for j in range(16)] for i in range(16)]
        told = solved(grid, unit_grid(16))
        self.check_kind(told)
        self.assertEqual(product_by_hand(grid, told, 16), unit_grid(16))
        grid[15] = list(grid[3])
        with self.assertRaises(NoAnswer):
            solved(grid, unit_grid(16))

    def test_sixteen_rows_of_sixty_figures(self):
        dice = random.Random(8)
        grid = some_grid(dice, 16, 16, SIXTY)
        other = some_grid(dice, 16, 1, SIXTY)
        told = solved(grid, other)
        self.check_kind(told)
        self.assertEqual(multiplied(grid, told), other)

    def test_told_ones_are_handed_in_again(self):
        grid = some_grid(random.Random(9), 4, 4, SIXTY)
        turned = solved(grid, unit_grid(4))
        self.assertEqual(solved(turned, unit_grid(4)), grid)
        self.assertEqual(multiplied(turned, grid), unit_grid(4))
        both = [determinant(grid), determinant(turned)]
        self.assertEqual(both[1], (both[0][1], both[0][0]) if both[0][0] > 0 else (-both[0][1], -both[0][0]))


class MultipliedTest(GridTest):
    def test_written_out(self):
        self.assertEqual(multiplied(wholes([[1, 2], [3, 4]]), wholes([[0, 1], [1, 0]])), wholes([[2, 1], [4, 3]]))
        self.assertEqual(multiplied(wholes([[0, 1], [1, 0]]), wholes([[1, 2], [3, 4]])), wholes([[3, 4], [1, 2]]))
        self.assertEqual(multiplied([[(1, 2), (1, 3)]], [[(1, 2)], [(3, 4)]]), [[(1, 2)]])

    def test_unlike_counts(self):
        self.assertEqual(multiplied(wholes([[1, 2, 3]]), wholes([[4], [5], [6]])), wholes([[32]]))
        self.assertEqual(
            multiplied(wholes([[4], [5], [6]]), wholes([[1, 2]])), wholes([[4, 8], [5, 10], [6, 12]])
        )
        self.assertEqual(multiplied(wholes([[1, 2], [3, 4], [5, 6]]), wholes([[1], [-1]])), wholes([[-1], [-1], [-1]]))

    def test_no_rows(self):
        self.assertEqual(multiplied([], []), [])
        self.assertEqual(multiplied([], wholes([[1, 2]])), [])
        self.assertEqual(multiplied([], [[]]), [])

    def test_rows_without_fractions(self):
        self.assertEqual(multiplied([[], []], []), [[], []])
        self.assertEqual(multiplied(wholes([[1, 2], [3, 4], [5, 6]]), [[], []]), [[], [], []])

    def test_as_numbers_are(self):
        dice = random.Random(10)
        for most in (3, 12, SIXTY):
            for rows, between, columns in ((1, 1, 1), (2, 3, 4), (4, 3, 2), (1, 6, 1), (5, 1, 5), (16, 16, 16)):
                grid = some_grid(dice, rows, between, most)
                other = some_grid(dice, between, columns, most)
                told = multiplied(grid, other)
                self.check_kind(told)
                self.assertEqual(told, product_by_hand(grid, other, columns))


class KeptTest(unittest.TestCase):
    def test_what_is_handed_in_stays(self):
        for rows in ([[0, 1], [1, 0]], [[1, 2], [3, 4]], [[1, 2], [2, 4]], [[0, 0], [0, 0]]):
            grid = wholes(rows)
            other = wholes([[5, 6, 7], [8, 9, 1]])
            grid_lists = list(grid)
            other_lists = list(other)
            grid_copy = copy.deepcopy(grid)
            other_copy = copy.deepcopy(other)
            determinant(grid)
            multiplied(grid, other)
            try:
                solved(grid, other)
            except NoAnswer:
                pass
            self.assertEqual(grid, grid_copy)
            self.assertEqual(other, other_copy)
            self.assertTrue(all(one is was for one, was in zip(grid, grid_lists)))
            self.assertTrue(all(one is was for one, was in zip(other, other_lists)))

    def check_new(self, ask, handed):
        first = ask()
        right = copy.deepcopy(first)
        lists = [first] + first
        for grid in handed:
            lists += [grid] + grid
        self.assertEqual(len(set(map(id, lists))), len(lists))
        for row in first:
            row.append("changed")
            row.insert(0, "changed")
        first.append("changed")
        self.assertEqual(ask(), right)

    def test_what_is_told_is_new(self):
        unit = unit_grid(2)
        other = wholes([[5, 6], [8, 9]])
        bare = [[], []]
        empty = []
        self.check_new(lambda: solved(unit, other), [unit, other])
        self.check_new(lambda: solved(unit, bare), [unit, bare])
        self.check_new(lambda: solved(empty, empty), [empty])
        self.check_new(lambda: multiplied(unit, other), [unit, other])
        self.check_new(lambda: multiplied(unit, bare), [unit, bare])
        self.check_new(lambda: multiplied(bare, empty), [bare, empty])
        self.check_new(lambda: multiplied(empty, other), [empty, other])

    def test_one_list_handed_in_twice(self):
        grid = wholes([[1, 2], [3, 4]])
        self.assertEqual(multiplied(grid, grid), wholes([[7, 10], [15, 22]]))
        self.assertEqual(solved(grid, grid), unit_grid(2))

    def test_what_is_done_behind_changes_no_answer(self):
        grid = wholes([[1, 2], [3, 4]])
        other = wholes([[5], [6]])
        told = solved(grid, other)
        product = multiplied(grid, other)
        grid[0][0] = (100, 1)
        other[0][0] = (100, 1)
        other.append([(1, 1)])
        self.assertEqual(told, [[(-4, 1)], [(9, 2)]])
        self.assertEqual(product, wholes([[17], [39]]))


if __name__ == "__main__":
    unittest.main()
