import copy
import itertools
import random
import unittest
from fractions import Fraction

from plates import BRIDGE, CROSS, DEAD_END, EDGE, LOOP_WITHIN, ONE_POST, POST_LOOP, RING, SAMPLES, SIXTY, SIX_POSTS
from plates import STAR, TWINS, grown, grown_nets, some_fraction, told
from rimread.answers import answer_table
from rimread.errors import NoAnswer
from rimread.nets import points_within
from rimread.takeout import table_by_taking, taken_out, whole_table

BLANK = (0, 1)


def wholes(rows):
    return [[(number, 1) for number in row] for row in rows]


def taken_by_hand(grid, k):
    rows = [[Fraction(*entry) for entry in row] for row in grid]
    others = [i for i in range(len(grid)) if i != k]
    left = [[rows[i][j] - rows[i][k] * rows[k][j] / rows[k][k] for j in others] for i in others]
    return [[(entry.numerator, entry.denominator) for entry in row] for row in left]


class WholeTableTest(unittest.TestCase):
    def test_by_hand(self):
        self.assertEqual(whole_table(ONE_POST), [[BLANK]])
        self.assertEqual(whole_table(SIX_POSTS), [[BLANK] * 6 for post in range(6)])
        self.assertEqual(whole_table(EDGE), [[(2, 3), (-2, 3)], [(-2, 3), (2, 3)]])
        self.assertEqual(whole_table(STAR), wholes([
            [1, 0, 0, -1], [0, 2, 0, -2], [0, 0, 3, -3], [-1, -2, -3, 6]]))

    def test_the_order_of_rows(self):
        net = told("c a b", ["b 2", "m 1 2 3", "c 3", "a 1"], {"1": (1, 1), "2": (2, 1), "3": (3, 1)})
        self.assertEqual(whole_table(net), wholes([
            [2, -2, 0, 0], [-2, 6, -3, -1], [0, -3, 3, 0], [0, -1, 0, 1]]))

    def test_two_wires_between_the_same_points(self):
        self.assertEqual(whole_table(TWINS), [[(5, 6), (-5, 6)], [(-5, 6), (5, 6)]])

    def test_a_loop_adds_nothing(self):
        self.assertEqual(whole_table(POST_LOOP), [[BLANK]])
        self.assertEqual(whole_table(LOOP_WITHIN), wholes([[1, -1], [-1, 1]]))

    def test_rows_sum_to_nothing_and_worths_stand_beside_the_diagonal(self):
        for net in SAMPLES + grown_nets(random.Random(21), 60):
            points = [row[0] for row in net[1]]
            ends = {}
            for point, wires in net[1]:
                for wire in wires:
                    ends.setdefault(wire, []).append(point)
            table = whole_table(net)
            self.assertEqual([len(row) for row in table], [len(points)] * len(points))
            for i, j in itertools.product(range(len(points)), repeat=2):
                if i != j:
                    tied = [Fraction(*worth) for wire, worth in net[2] if set(ends[wire]) == {points[i], points[j]}]
                    self.assertEqual(Fraction(*table[i][j]), -sum(tied))
            for row in table:
                self.assertEqual(sum([Fraction(*entry) for entry in row]), 0)


class TakenOutTest(unittest.TestCase):
    def test_the_first_the_last_and_one_between(self):
        grid = wholes([[2, 1, 4], [3, 5, 6], [7, 8, 4]])
        self.assertEqual(taken_out(grid, 0), [[(7, 2), (0, 1)], [(9, 2), (-10, 1)]])
        self.assertEqual(taken_out(grid, 1), [[(7, 5), (14, 5)], [(11, 5), (-28, 5)]])
        self.assertEqual(taken_out(grid, 2), [[(-5, 1), (-7, 1)], [(-15, 2), (-7, 1)]])

    def test_the_middle_of_a_star(self):
        self.assertEqual(taken_out(whole_table(STAR), 3), answer_table(STAR))

    def test_of_one_row(self):
        self.assertEqual(taken_out([[(2, 3)]], 0), [])
        self.assertEqual(taken_out([[(-2, 3)]], 0), [])

    def test_refused_where_the_diagonal_is_0(self):
        with self.assertRaises(NoAnswer):
            taken_out([[BLANK]], 0)
        with self.assertRaises(NoAnswer):
            taken_out(wholes([[1, 2, 3], [4, 0, 5], [6, 7, 8]]), 1)
        with self.assertRaises(NoAnswer):
            taken_out(whole_table(SIX_POSTS), 5)
        self.assertEqual(taken_out(wholes([[0, 2], [4, 1]]), 1), [[(-8, 1)]])

    def test_uneven_grids(self):
        dice = random.Random(22)
        for number in range(60):
            size = dice.randint(1, 6)
            grid = [[some_fraction(dice, 9) for j in range(size)] for i in range(size)]
            k = dice.randrange(size)
            if grid[k][k] == BLANK:
                with self.assertRaises(NoAnswer):
                    taken_out(grid, k)
            else:
                self.assertEqual(taken_out(grid, k), taken_by_hand(grid, k))

    def test_large_grids(self):
        dice = random.Random(23)
        grid = [[some_fraction(dice, SIXTY) for j in range(16)] for i in range(16)]
        for k in (0, 7, 15):
            self.assertEqual(taken_out(grid, k), taken_by_hand(grid, k))

    def test_the_grid_stays_and_all_is_new(self):
        grid = whole_table(RING)
        kept = copy.deepcopy(grid)
        left = taken_out(grid, 1)
        right = copy.deepcopy(left)
        self.assertEqual(grid, kept)
        for row in left:
            row.clear()
        self.assertEqual(grid, kept)
        self.assertEqual(taken_out(grid, 1), right)


class TableByTakingTest(unittest.TestCase):
    def test_no_points_within(self):
        for net in (ONE_POST, SIX_POSTS, EDGE, TWINS, POST_LOOP):
            self.assertEqual(table_by_taking(net, []), answer_table(net))

    def test_in_each_order(self):
        for net in (STAR, LOOP_WITHIN, DEAD_END, RING, CROSS, BRIDGE):
            for points in itertools.permutations(points_within(net)):
                self.assertEqual(table_by_taking(net, list(points)), answer_table(net))

    def test_posts_in_another_order_than_rows(self):
        net = told("c a b", ["m 1 2 3", "b 2", "a 1", "c 3"], {"1": (1, 1), "2": (2, 1), "3": (3, 1)})
        self.assertEqual(table_by_taking(net, ["m"]), [
            [(3, 2), (-1, 2), (-1, 1)], [(-1, 2), (5, 6), (-1, 3)], [(-1, 1), (-1, 3), (4, 3)]])
        net = told("a b c", ["c 2", "b 1", "a 1 2"], {"1": (1, 1), "2": (2, 1)})
        self.assertEqual(table_by_taking(net, []), wholes([[3, -1, -2], [-1, 1, 0], [-2, 0, 2]]))

    def test_many_nets(self):
        dice = random.Random(24)
        for net in grown_nets(dice, 60) + [grown(dice, 6, 10, 15) for number in range(20)]:
            for turn in range(3):
                points = points_within(net)
                dice.shuffle(points)
                self.assertEqual(table_by_taking(net, points), answer_table(net))

    def test_nothing_is_changed_and_all_is_new(self):
        for net in SAMPLES:
            kept = copy.deepcopy(net)
            points = points_within(net)
            for ask in (whole_table, lambda asked: table_by_taking(asked, points)):
                table = ask(net)
                right = copy.deepcopy(table)
                for row in table:
                    row.append(None)
                self.assertTrue(all(len(row) == len(right) + 1 for row in table))
                table.clear()
                self.assertEqual(net, kept)
                self.assertEqual(points, points_within(net))
                self.assertEqual(ask(net), right)


if __name__ == "__main__":
    unittest.main()
