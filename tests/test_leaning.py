import copy
import random
import unittest

from plates import BRIDGE, CHAIN, CROSS, DEAD_END, EDGE, LOOP_WITHIN, ONE_POST, POST_LOOP, SAMPLES, SIX_POSTS
from plates import STAR, TRIANGLE, TWINS, drawn_nets, fewest_wires, grown, grown_nets, spoil, told
from rimread.answers import answer_table
from rimread.leaning import made_lean
from rimread.lenses import is_lean
from rimread.lines import lines_of
from rimread.nets import vet
from rimread.steps import step_done, steps_for

# Every point within has three ends or four, so there is none of the first four kinds of step.
LATTICE = told(
    "a b",
    ["a 1 2", "p 1 3 4", "q 2 4 5 6", "r 3 7 8 5", "s 6 8 9", "b 9 7"],
    {"1": (1, 2), "3": (3, 1), "5": (5, 2), "7": (7, 3), "9": (9, 10)},
)


class LeaningTest(unittest.TestCase):
    def led(self, net):
        kept = copy.deepcopy(net)
        vet(net)
        steps, lean = made_lean(net)
        self.assertEqual(net, kept)
        self.assertIsInstance(steps, list)
        left = net
        for step in steps:
            self.assertIsInstance(step, tuple)
            left = step_done(left, step)
        self.assertEqual(left, lean)
        self.assertTrue(vet(lean))
        self.assertTrue(is_lean(lean))
        self.assertEqual(lean[0], net[0])
        self.assertEqual(answer_table(lean), answer_table(net))
        return steps, lean

    def test_lean_nets_by_no_steps(self):
        for net in (ONE_POST, SIX_POSTS, EDGE, STAR, TRIANGLE, CROSS):
            self.assertEqual(made_lean(net), ([], net))

    def test_one_step(self):
        self.assertEqual(made_lean(POST_LOOP), ([("loop", "w")], ONE_POST))
        self.assertEqual(self.led(DEAD_END)[0], [("dead", "1")])
        self.assertEqual(self.led(CHAIN)[0], [("chain", "m")])
        self.assertEqual(self.led(TWINS)[0], [("twins", "1", "2")])

    def test_of_one_post_no_wire_is_left(self):
        for net in (LOOP_WITHIN, told("a", ["a 1 2 3", "m 3 2 1"]), told("a", ["a 1 2", "m 1 4 3", "n 5 2 3", "o 5 4"])):
            self.assertEqual(self.led(net)[1], ONE_POST)

    def test_of_two_posts_one_wire_is_left_at_most(self):
        for net in (BRIDGE, LATTICE):
            self.assertEqual([step[0] for step in steps_for(net) if step[0] != "star"], [])
            steps, lean = self.led(net)
            self.assertEqual(len(lean[2]), 1)
            self.assertIn(steps[0][0], ("star", "ring"))

    def test_a_star_with_an_edge_beside_it(self):
        steps, lean = self.led(told("a b c", ["a 1 4", "b 2", "c 4 3", "m 1 2 3"]))
        self.assertEqual(len(lean[2]), 3)

    def test_many_nets(self):
        dice = random.Random(51)
        nets = SAMPLES + grown_nets(dice, 80) + drawn_nets(dice, 80, 15)
        nets += [grown(dice, dice.randint(1, 6), 10, 15) for turn in range(20)]
        closed = 0
        without = 0
        for net in nets:
            steps, lean = self.led(net)
            self.assertEqual(len(lean[2]), fewest_wires(net))
            closed += lines_of(net)[-1][0] is None
            if not is_lean(net):
                without += all(step[0] == "star" for step in steps_for(net))
        self.assertGreater(closed, 20)
        self.assertGreater(without, 10)

    def test_the_wires_become_fewer_each_time(self):
        for net in [BRIDGE, LATTICE] + drawn_nets(random.Random(52), 60, 15):
            steps, lean = made_lean(net)
            self.assertEqual(len([step for step in steps if step[0] not in ("star", "ring")]), len(net[2]) - len(lean[2]))
            if steps:
                self.assertIn(steps[-1][0], ("chain", "dead", "loop", "twins"))

    # Many turns: slow ways take minutes here; there is no clock to look at.
    def test_nets_larger_than_asked_for(self):
        for net in drawn_nets(random.Random(53), 12, 34):
            self.led(net)

    def test_new_names_where_points_are_called_so(self):
        renamed = 0
        for net in drawn_nets(random.Random(55), 40, 15):
            names = {row[0]: "n%d" % number for number, row in enumerate(net[1])}
            posts = [names[post] for post in net[0]]
            steps, lean = self.led((posts, [(names[point], wires) for point, wires in net[1]], net[2]))
            renamed += len([step for step in steps if step[0] == "ring"])
        self.assertGreater(renamed, 0)

    def test_what_was_told_is_led_to_itself(self):
        for net in drawn_nets(random.Random(56), 20, 15):
            lean = made_lean(net)[1]
            self.assertEqual(made_lean(lean), ([], lean))

    def test_nothing_is_changed_and_all_is_new(self):
        for net in SAMPLES + [BRIDGE, LATTICE, CROSS]:
            kept = copy.deepcopy(net)
            steps, lean = made_lean(net)
            right = copy.deepcopy((steps, lean))
            steps.clear()
            spoil(lean)
            self.assertEqual(net, kept)
            self.assertEqual(made_lean(net), right)


if __name__ == "__main__":
    unittest.main()
