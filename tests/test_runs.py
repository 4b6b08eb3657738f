import copy
import random
import unittest

from plates import CROSS, SIXTY, SIX_POSTS, STAR, drawn_nets, grown, minor_by_orders, runs_by_words, some_fraction
from plates import wholes
from rimread.answers import answer_table
from rimread.runs import facing_runs, minor_of


class FacingRunsTest(unittest.TestCase):
    def test_by_hand(self):
        self.assertEqual(facing_runs(1), [])
        self.assertEqual(facing_runs(2), [([0], [1])])
        self.assertEqual(facing_runs(3), [([0], [1]), ([0], [2]), ([1], [2])])
        self.assertEqual(facing_runs(4), [
            ([0], [1]), ([0], [2]), ([0], [3]), ([1], [2]), ([1], [3]), ([2], [3]),
            ([0, 1], [3, 2]), ([3, 0], [2, 1])])

    def test_of_six(self):
        runs = facing_runs(6)
        self.assertEqual([len(P) for P, Q in runs], [1] * 15 + [2] * 30 + [3] * 3)
        self.assertEqual(runs[-3:], [([0, 1, 2], [5, 4, 3]), ([4, 5, 0], [3, 2, 1]), ([5, 0, 1], [4, 3, 2])])
        self.assertIn(([1, 3], [5, 4]), runs)
        self.assertIn(([5, 1], [4, 2]), runs)
        self.assertNotIn(([4, 2], [5, 1]), runs)

    def test_by_the_words_of_the_document(self):
        for n in range(1, 7):
            self.assertEqual(facing_runs(n), runs_by_words(n))

    def test_all_is_new(self):
        for n in range(1, 7):
            runs = facing_runs(n)
            right = copy.deepcopy(runs)
            for P, Q in runs:
                P.append(9)
                Q.append(9)
            self.assertTrue(all(len(run[0]) == len(kept[0]) + 1 for run, kept in zip(runs, right)))
            runs.clear()
            self.assertEqual(facing_runs(n), right)


class MinorTest(unittest.TestCase):
    def test_by_hand(self):
        grid = wholes([[2, 3, 5, 7], [1, 0, 4, 6], [9, 8, 2, 5], [3, 1, 7, 2]])
        self.assertEqual(minor_of(grid, [0], [1]), (-3, 1))
        self.assertEqual(minor_of(grid, [1], [0]), (-1, 1))
        self.assertEqual(minor_of(grid, [0, 1], [3, 2]), (7 * 4 - 5 * 6, 1))
        self.assertEqual(minor_of(grid, [3, 0], [2, 1]), (7 * 3 - 1 * 5, 1))
        self.assertEqual(minor_of(grid, [2, 1], [3, 0]), (5 * 1 - 9 * 6, 1))
        self.assertEqual(minor_of([[(1, 2), (-1, 2)], [(-1, 2), (1, 2)]], [0], [1]), (1, 2))

    def test_the_sign_of_three(self):
        grid = wholes([[0] * 3 + row for row in ([1, 0, 0], [0, 1, 0], [0, 0, 1])] + [[0] * 6] * 3)
        self.assertEqual(minor_of(grid, [0, 1, 2], [5, 4, 3]), (1, 1))
        grid = wholes([[0] * 3 + row for row in ([0, 0, 1], [0, 1, 0], [1, 0, 0])] + [[0] * 6] * 3)
        self.assertEqual(minor_of(grid, [0, 1, 2], [5, 4, 3]), (-1, 1))

    def test_nought(self):
        self.assertEqual(minor_of(answer_table(SIX_POSTS), [0, 1, 2], [5, 4, 3]), (0, 1))
        self.assertEqual(minor_of(answer_table(SIX_POSTS), [4], [0]), (0, 1))
        self.assertEqual(minor_of(answer_table(CROSS), [0, 1], [3, 2]), (0, 1))

    def test_all_orders_of_columns_tell_the_same(self):
        dice = random.Random(61)
        for most in (9, 1000, SIXTY):
            table = [[some_fraction(dice, most) for j in range(6)] for i in range(6)]
            for P, Q in facing_runs(6):
                self.assertEqual(minor_of(table, P, Q), minor_by_orders(table, P, Q))
                # The least number may stand in Q, too.
                self.assertEqual(minor_of(table, Q, P), minor_by_orders(table, Q, P))

    def test_of_answer_tables_never_below_0(self):
        dice = random.Random(62)
        nets = drawn_nets(dice, 60, 15) + [grown(dice, 6, dice.randint(0, 6), 15) for turn in range(20)]
        found = {}
        for net in nets:
            table = answer_table(net)
            for P, Q in facing_runs(len(net[0])):
                minor = minor_of(table, P, Q)
                self.assertGreaterEqual(minor[0], 0)
                self.assertEqual(minor_of(table, Q, P), minor)
                if minor[0] > 0:
                    found[len(P)] = found.get(len(P), 0) + 1
        self.assertGreater(min(found.get(k, 0) for k in (1, 2, 3)), 0)

    def test_nothing_is_changed(self):
        table = answer_table(STAR)
        kept = copy.deepcopy(table)
        P = [0]
        Q = [2]
        minor_of(table, P, Q)
        self.assertEqual((table, P, Q), (kept, [0], [2]))


if __name__ == "__main__":
    unittest.main()
