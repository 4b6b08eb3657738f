import random
import unittest

from plates import BRIDGE, CHAIN, DEAD_END, EDGE, LOOP_WITHIN, ONE_POST, POST_LOOP, STAR, TWINS, drawn_nets, told
from rimread.arcs import lying_within, plain_lenses, sides_of, to_be_turned
from rimread.leaning import made_lean, turning_step
from rimread.lenses import is_lean
from rimread.nets import vet
from rimread.regions import regions_of
from rimread.steps import step_done, steps_for

HANGING = told("a", ["a 1 2", "m 2 1"])
THREE_HANGING = told("a", ["a 1 2 3", "m 3 2 1"])
# One lens alone, crossed by three lines of which each two meet in it; the point m lies between these three.
DEEP = told(
    "a b c d e",
    ["a 4 5", "b 6", "c 7 8", "d 9 10", "e 11 9", "m 1 2 3", "x 6 8 2 4", "y 11 5 1", "z 3 7 10"],
    {"1": (1, 2), "3": (3, 2), "5": (5, 4), "7": (7, 6), "9": (9, 8)},
)


# What lies within each lens: points by their names, regions by their numbers.
def within_lenses(net):
    sides = sides_of(net, regions_of(net))
    return [lying_within(net, sides, corners) for corners in plain_lenses(net)]


def fewest_within(net):
    return min(len(within) for within in within_lenses(net))


class ArcsTest(unittest.TestCase):
    def lenses(self, net, right):
        vet(net)
        self.assertEqual(sorted(within_lenses(net), key=str), sorted(right, key=str))

    def test_lean_nets_have_none(self):
        for net in (ONE_POST, EDGE, STAR):
            self.lenses(net, [])

    def test_with_one_within(self):
        self.lenses(CHAIN, [["m"]])
        self.lenses(TWINS, [[1]])
        self.lenses(POST_LOOP, [[1]])
        self.lenses(DEAD_END, [["m"]])

    def test_a_loop_on_a_dead_end(self):
        self.lenses(LOOP_WITHIN, [[1], ["m", 1]])

    def test_both_arcs_of_a_closed_line(self):
        self.lenses(HANGING, [["m"], [1]])
        self.lenses(BRIDGE, [["m", 3], ["n", 1], ["n", 3], ["m", 1]])

    def test_two_arcs_of_one_line(self):
        self.lenses(THREE_HANGING, [["m", 2], ["m", 1], ["m", 1, 2], [1], [2]])

        self.lenses(told("a", ["a 1 2", "m 1", "n 2"]), [["m"], ["n"]])

    def test_two_arcs_of_one_closed_line(self):
        self.lenses(told("a", ["a 1 2 3", "n 2", "m 1 4 3", "o 4"]), [["n"], ["o"], ["n", "m", 1]])

    def test_what_is_turned_lies_on_the_lens(self):
        self.assertEqual([len(within) for within in within_lenses(DEEP)], [7])
        self.assertIn("m", within_lenses(DEEP)[0])
        turned = to_be_turned(DEEP)
        self.assertGreater(len(turned), 0)
        self.assertNotIn("m", turned)
        self.assertEqual(len(made_lean(DEEP)[1][2]), 10)

    def test_each_turn_leaves_fewer_within_the_least_lens(self):
        turns = 0
        for net in [BRIDGE, DEEP] + drawn_nets(random.Random(54), 60, 20):
            while not is_lean(net):
                lessening = [step for step in steps_for(net) if step[0] != "star"]
                if lessening:
                    net = step_done(net, lessening[0])
                    continue
                before = fewest_within(net)
                self.assertGreater(before, 1)
                net = step_done(net, turning_step(net))
                self.assertLess(fewest_within(net), before)
                turns += 1
        self.assertGreater(turns, 30)


if __name__ == "__main__":
    unittest.main()
