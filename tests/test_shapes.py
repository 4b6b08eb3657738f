import copy
import random
import unittest

from plates import CROSS, EDGE, ONE_POST, SIX_POSTS, STAR, TRIANGLE, full_nets, lean_nets, renamed, told, turned_about
from rimread.leaning import made_lean
from rimread.lines import lines_of
from rimread.nets import vet
from rimread.shapes import meets_of, same_shape
from rimread.steps import step_done, steps_for

# Two edges, one of them past a post without wires.
BESIDE = told("a b c d", ["a 1 4", "b 1", "c", "d 4"])


class MeetsTest(unittest.TestCase):
    def test_by_hand(self):
        self.assertEqual(meets_of(EDGE), [[1], [0]])
        # Its lines are (0, 3), (1, 4), (2, 5): over 1 and 2, over 1 and 3, over 2 and 3.
        self.assertEqual(meets_of(STAR), [[1, 2], [0, 2], [0, 1]])
        # The same lines, but over 2 and 3, over 1 and 3 ..: the order from the lesser place on.
        self.assertEqual(meets_of(TRIANGLE), [[2, 1], [2, 0], [1, 0]])
        # Its lines are (0, 3) over 1 and 2, (1, 6) over 1 and 4, (2, 5) over 2 and 3, (4, 7) over 3 and 4.
        self.assertEqual(meets_of(CROSS), [[1, 2], [0, 3], [0, 3], [2, 1]])

    def test_lines_that_meet_none(self):
        self.assertEqual(meets_of(ONE_POST), [[]])
        self.assertEqual(meets_of(SIX_POSTS), [[], [], [], [], [], []])
        # Its lines are (0, 6) over 4, (1, 3) over 1, (2, 7) over 1 and 4, (4, 5) over none.
        self.assertEqual(meets_of(BESIDE), [[2], [2], [1, 0], []])

    def test_a_net_of_two_parts(self):
        net = told("a b c d", ["a 1", "b 1", "c 2", "d 2"])
        self.assertEqual(meets_of(net), [[1], [0], [3], [2]])

    # Where the wires that the lines cross are looked at one by one.
    def test_many_nets(self):
        dice = random.Random(61)
        for net in lean_nets(dice, 80) + full_nets(dice, 5):
            vet(net)
            lines = lines_of(net)
            meets = meets_of(net)
            self.assertEqual(len(meets), len(net[0]))
            for number, line in enumerate(lines):
                met = []
                for wire in line[2]:
                    met += [other for other, beside in enumerate(lines) if wire in beside[2] and other != number]
                self.assertEqual(meets[number], met)

    def test_nothing_is_changed_and_all_is_new(self):
        for net in (STAR, CROSS, BESIDE, SIX_POSTS):
            kept = copy.deepcopy(net)
            told_first = meets_of(net)
            right = copy.deepcopy(told_first)
            for numbers in told_first:
                numbers.append(7)
            told_first.clear()
            self.assertEqual(meets_of(net), right)
            self.assertEqual(net, kept)


class SameShapeTest(unittest.TestCase):
    def held(self, one, other, same):
        self.assertIs(same_shape(one, other), same)
        self.assertIs(same_shape(other, one), same)

    def test_other_names_rows_and_beginnings(self):
        dice = random.Random(62)
        for net in [ONE_POST, SIX_POSTS, EDGE, STAR, TRIANGLE, CROSS] + lean_nets(dice, 60) + full_nets(dice, 5):
            self.held(net, net, True)
            self.held(net, renamed(dice, net), True)
            self.held(net, renamed(dice, net, True), True)

    def test_worths_are_no_part_of_it(self):
        self.held(STAR, told("a b c", ["a 1", "b 2", "c 3", "m 1 2 3"], {"1": (7, 1)}), True)

    def test_a_star_turned_into_a_ring(self):
        self.held(STAR, TRIANGLE, False)
        self.held(STAR, step_done(STAR, ("star", "m")), False)
        dice = random.Random(63)
        turned = 0
        for net in lean_nets(dice, 60) + full_nets(dice, 10):
            for step in steps_for(net):
                self.held(net, step_done(net, step), False)
                self.held(renamed(dice, net), step_done(net, step), False)
                turned += 1
        self.assertGreater(turned, 40)

    def test_turned_there_and_back(self):
        ring = step_done(STAR, ("star", "m"))
        self.held(STAR, step_done(ring, ("ring", "1", "2", "3", "x")), True)

    def test_other_lines(self):
        one = told("a b c", ["a w", "b w", "c"])
        self.held(one, told("a b c", ["a", "b w", "c w"]), False)
        self.held(one, told("a b c", ["a w", "b", "c w"]), False)
        self.held(told("a b c", ["a", "b", "c"]), one, False)
        # As many lines that meet as often.
        self.held(told("a b c d", ["a 1", "b 1", "c 2", "d 2"]), told("a b c d", ["a 1", "b 2", "c 2", "d 1"]), False)
        self.held(CROSS, told("a b c d", ["a 1 2", "b 3 1", "c 4 3", "d 2 4"]), False)

    def test_unlike_numbers_of_posts(self):
        self.held(ONE_POST, SIX_POSTS, False)
        self.held(EDGE, told("a b c", ["a w", "b w", "c"]), False)
        self.held(STAR, told("a b c d", ["a 1", "b 2", "c 3", "d", "m 1 2 3"]), False)

    # Shape by shape: of nets one or more turns apart those of the same shape are alike to the letter when the wires
    # are called by the lines that cross them, and lists are begun with the least.
    def test_just_where_nets_are_alike_but_for_names(self):
        dice = random.Random(64)
        found = {True: 0, False: 0}
        for net in full_nets(dice, 8) + lean_nets(dice, 20):
            others = [turned_about(dice, net, dice.randint(0, 4)) for turn in range(8)]
            for one in others:
                for other in others:
                    same = called_by_lines(one) == called_by_lines(other)
                    self.assertIs(same_shape(one, other), same)
                    found[same] += 1
        self.assertGreater(min(found.values()), 50)

    def test_nothing_is_changed(self):
        one = copy.deepcopy(CROSS)
        other = made_lean(told("a b c d", ["a 1", "b 2", "c 3", "d 4", "m 1 2 3 4 5", "n 5"]))[1]
        kept = copy.deepcopy((one, other))
        self.assertTrue(same_shape(one, other))
        self.assertEqual((one, other), kept)


def called_by_lines(net):
    names = {}
    for number, line in enumerate(lines_of(net)):
        for wire in line[2]:
            names[wire] = names.get(wire, ()) + (number,)
    rows = dict(net[1])
    posts = [[names[wire] for wire in rows[post]] for post in net[0]]
    within = []
    for point, wires in net[1]:
        if point not in net[0]:
            called = [names[wire] for wire in wires]
            within.append(min(called[turn:] + called[:turn] for turn in range(len(called))))
    return posts, sorted(within)


if __name__ == "__main__":
    unittest.main()
