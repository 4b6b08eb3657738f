import copy
import random
import unittest

from plates import BRIDGE, CHAIN, CROSS, EDGE, RING, SIX_POSTS, STAR, TRIANGLE, TWINS, drawn_nets, grown, told
from rimread.answers import answer_table
from rimread.leaning import made_lean
from rimread.nets import vet
from rimread.runs import facing_runs, minor_of
from rimread.ways import ways_or_cut

# Three posts face three: each has a row of its own through two points within, and these are tied across.
LADDER = told(
    "a b c d e f",
    ["a 1", "b 2", "c 3", "d 4", "e 5", "f 6", "u 1 7 10", "v 2 8 11 7", "w 3 12 8", "x 10 9 6", "y 11 13 5 9", "z 12 4 13"],
)


class WaysTest(unittest.TestCase):
    def setUp(self):
        self.found = {}

    def held(self, net, P, Q):
        vet(net)
        kept = copy.deepcopy(net)
        answer = ways_or_cut(net, P, Q)
        self.assertEqual(net, kept)
        self.assertIsInstance(answer, tuple)
        kind, lists = answer
        self.assertIsInstance(lists, list)
        standing = {}
        for point, wires in net[1]:
            for wire in wires:
                standing.setdefault(wire, []).append(point)
        ties = {tuple(pair) for pair in standing.values()} | {tuple(pair[::-1]) for pair in standing.values()}
        within = {row[0] for row in net[1]} - set(net[0])
        starts = [net[0][number] for number in P]
        goals = [net[0][number] for number in Q]
        if kind == "ways":
            self.assertEqual([(way[0], way[-1]) for way in lists], list(zip(starts, goals)))
            passed = [point for way in lists for point in way]
            self.assertEqual(len(passed), len(set(passed)))
            for way in lists:
                self.assertIsInstance(way, list)
                self.assertLessEqual(set(way[1:-1]), within)
                self.assertLessEqual(set(zip(way, way[1:])), ties)
        else:
            self.assertEqual(kind, "cut")
            self.assertLess(len(lists), len(P))
            self.assertEqual(lists, sorted(set(lists)))
            self.assertLessEqual(set(lists), within | set(starts + goals))
            self.assertFalse(self.reached(ties, set(starts) - set(lists), within - set(lists)) & (set(goals) - set(lists)))
        self.found[kind, len(P)] = self.found.get((kind, len(P)), 0) + 1
        return answer

    # All points that a start is tied to, by way of points within.
    def reached(self, ties, starts, within):
        left = set(starts)
        reached = set()
        while left:
            here = left.pop()
            for near, far in ties:
                if near == here and far not in reached:
                    reached.add(far)
                    if far in within:
                        left.add(far)
        return reached

    def test_one_way(self):
        self.assertEqual(self.held(EDGE, [0], [1]), ("ways", [["a", "b"]]))
        self.assertEqual(self.held(EDGE, [1], [0]), ("ways", [["b", "a"]]))
        self.assertEqual(self.held(TWINS, [0], [1]), ("ways", [["a", "b"]]))
        self.assertEqual(self.held(CHAIN, [0], [1]), ("ways", [["a", "m", "b"]]))
        self.assertEqual(self.held(STAR, [2], [0]), ("ways", [["c", "m", "a"]]))
        self.assertEqual(self.held(BRIDGE, [0], [1])[0], "ways")
        self.assertEqual(self.held(TRIANGLE, [1], [2]), ("ways", [["b", "c"]]))

    def test_posts_that_nothing_joins(self):
        for P, Q in facing_runs(6):
            self.assertEqual(self.held(SIX_POSTS, P, Q), ("cut", []))
        net = told("a b c d", ["a 1", "m 1 2", "b 2", "c 3", "d 3"])
        self.assertEqual(self.held(net, [1], [2]), ("cut", []))

    def test_not_by_way_of_another_post(self):
        net = told("a b c", ["a 1", "b 2 1", "c 2"])
        self.assertEqual(self.held(net, [0], [2]), ("cut", []))
        # Nor by way of one of the runs themselves: all from a and b to c and d goes over the tie of b and c.
        net = told("a b c d", ["a 1", "b 2 1", "c 3 2", "d 3"])
        self.assertIn(self.held(net, [0, 1], [3, 2]), [("cut", ["b"]), ("cut", ["c"])])

    def test_a_cut_of_one_point_within(self):
        for P, Q in (([0, 1], [3, 2]), ([3, 0], [2, 1]), ([2, 1], [3, 0])):
            self.assertEqual(self.held(CROSS, P, Q), ("cut", ["m"]))

    def test_a_cut_of_a_post(self):
        net = told("a b c d", ["a 1 2", "b", "c 1", "d 2"])
        self.assertEqual(self.held(net, [0, 1], [3, 2]), ("cut", ["a"]))
        self.assertEqual(self.held(net, [3, 2], [0, 1]), ("cut", ["a"]))

    def test_two_ways(self):
        square = told("a b c d", ["a 1 2", "b 3 1", "c 4 3", "d 2 4"])
        self.assertEqual(self.held(square, [0, 1], [3, 2]), ("ways", [["a", "d"], ["b", "c"]]))
        self.assertEqual(self.held(square, [3, 0], [2, 1]), ("ways", [["d", "c"], ["a", "b"]]))
        self.assertEqual(self.held(square, [2, 1], [3, 0]), ("ways", [["c", "d"], ["b", "a"]]))

    def test_three_ways(self):
        self.assertEqual(self.held(LADDER, [0, 1, 2], [5, 4, 3]), (
            "ways", [["a", "u", "x", "f"], ["b", "v", "y", "e"], ["c", "w", "z", "d"]]))
        self.assertEqual(self.held(LADDER, [5, 0, 1], [4, 3, 2])[0], "cut")
        for P, Q in facing_runs(6):
            self.held(LADDER, P, Q)
            self.held(LADDER, Q, P)

    def test_a_cut_of_two(self):
        net = told("a b c d e f", ["a 1", "b 3 2", "c 4", "d 5", "e 7 6", "f 8", "u 1 2 7 8", "v 3 4 5 6"])
        self.assertEqual(self.held(net, [0, 1, 2], [5, 4, 3]), ("cut", ["u", "v"]))

    def test_just_as_the_minor_is_not_0_or_0(self):
        dice = random.Random(66)
        nets = drawn_nets(dice, 60, 15) + [grown(dice, dice.randint(2, 6), dice.randint(0, 6), 15) for turn in range(40)]
        for net in [RING, STAR, CROSS, LADDER] + nets + [made_lean(net)[1] for net in nets]:
            table = answer_table(net)
            for P, Q in facing_runs(len(net[0])):
                right = "cut" if minor_of(table, P, Q) == (0, 1) else "ways"
                self.assertEqual(self.held(net, P, Q)[0], right)
                self.assertEqual(self.held(net, Q, P)[0], right)
        kinds = [(kind, k) for kind in ("cut", "ways") for k in (1, 2, 3)]
        self.assertGreater(min(self.found.get(kind, 0) for kind in kinds), 2)

    def test_nothing_is_changed_and_all_is_new(self):
        for net, P, Q in ((LADDER, [0, 1, 2], [5, 4, 3]), (CROSS, [0, 1], [3, 2]), (RING, [0], [2])):
            kept = copy.deepcopy((net, P, Q))
            answer = ways_or_cut(net, P, Q)
            right = copy.deepcopy(answer)
            for way in answer[1]:
                if isinstance(way, list):
                    way.clear()
            answer[1].clear()
            self.assertEqual((net, P, Q), kept)
            self.assertEqual(ways_or_cut(net, P, Q), right)


if __name__ == "__main__":
    unittest.main()
