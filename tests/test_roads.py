import copy
import random
import unittest

from plates import BRIDGE, CHAIN, CROSS, EDGE, LOOP_WITHIN, ONE_POST, SIX_POSTS, STAR, TRIANGLE, TWINS, drawn_nets
from plates import all_lean_nets, full_nets, grown_nets, lean_nets, renamed, told, turned_about, worths_by_lines
from rimread.answers import answer_table
from rimread.errors import NotLean, Unlike
from rimread.leaning import made_lean
from rimread.lenses import is_lean
from rimread.lines import lines_of
from rimread.nets import vet
from rimread.roads import road_between
from rimread.shapes import same_shape
from rimread.steps import step_done

# Nets with other lines than one another, all lean, and of four posts but for the last two.
UNLIKE = [
    CROSS,
    told("a b c d", ["a", "b", "c", "d"]),
    told("a b c d", ["a 1", "b 1", "c 2", "d 2"]),
    told("a b c d", ["a 1", "b 2", "c 2", "d 1"]),
    told("a b c d", ["a 1", "b 2", "c 3", "d", "m 1 2 3"]),
    told("a b c d", ["a 1 2", "b 3 1", "c 4 3", "d 2 4"]),
    STAR,
    ONE_POST,
]


class RoadsTest(unittest.TestCase):
    def gone(self, one, other):
        kept = copy.deepcopy((one, other))
        road = road_between(one, other)
        self.assertEqual((one, other), kept)
        self.assertIsInstance(road, list)
        net = one
        for step in road:
            self.assertIsInstance(step, tuple)
            self.assertIn(step[0], ("star", "ring"))
            net = step_done(net, step)
            self.assertTrue(vet(net))
        self.assertTrue(same_shape(net, other))
        return road, net

    # Of two nets with the same answer table: at the end they are alike wire by wire.
    def gone_alike(self, one, other):
        self.assertEqual(answer_table(one), answer_table(other))
        road, net = self.gone(one, other)
        self.assertEqual(worths_by_lines(net), worths_by_lines(other))
        return road

    def test_from_a_net_to_itself(self):
        dice = random.Random(71)
        for net in [ONE_POST, SIX_POSTS, EDGE, STAR, TRIANGLE, CROSS] + lean_nets(dice, 40) + full_nets(dice, 5):
            self.gone_alike(net, net)
            self.gone_alike(net, renamed(dice, net))

    def test_one_turn_apart(self):
        ring = step_done(STAR, ("star", "m"))
        self.gone_alike(STAR, ring)
        self.gone_alike(ring, STAR)
        self.gone(STAR, TRIANGLE)
        self.gone(TRIANGLE, STAR)

    def test_names_that_rings_would_bring_are_taken(self):
        names = told("n0 n1 n2", ["n0 1", "n1 2", "n2 3", "n3 1 2 3"])
        ring = step_done(names, ("star", "n3"))
        self.gone_alike(ring, names)
        self.gone_alike(names, ring)

    def test_many_turns_apart(self):
        dice = random.Random(72)
        longest = 0
        for net in lean_nets(dice, 60) + full_nets(dice, 30):
            one = turned_about(dice, net, dice.randint(0, 20))
            other = renamed(dice, turned_about(dice, net, dice.randint(0, 40)))
            longest = max(longest, len(self.gone_alike(one, other)), len(self.gone_alike(other, one)))
        self.assertGreater(longest, 10)

    def test_all_nets_of_up_to_four_posts(self):
        for post_count, class_count in ((1, 1), (2, 2), (3, 8), (4, 52)):
            alike = shapes_by_places(all_lean_nets(post_count))
            self.assertEqual(len(alike), class_count)
            for nets in alike.values():
                for one in nets:
                    for other in nets:
                        self.gone(one, other)

    def test_all_nets_of_five_posts(self):
        alike = shapes_by_places(all_lean_nets(5))
        self.assertEqual(len(alike), 464)
        for nets in alike.values():
            for net in nets[1:]:
                self.gone(nets[0], net)

    # All lines of such a net meet, so each one leads to each.
    def test_nets_of_fifteen_wires_with_unlike_tables(self):
        nets = full_nets(random.Random(73), 12)
        for one in nets:
            for other in nets:
                self.gone(one, other)

    def test_thick_nets_made_lean(self):
        dice = random.Random(74)
        turned = 0
        for net in grown_nets(dice, 40) + drawn_nets(dice, 60, 15):
            one = made_lean(net)[1]
            other = made_lean(renamed(dice, net))[1]
            turned += len(self.gone_alike(one, other))
        self.assertGreater(turned, 5)

    def test_not_lean(self):
        fat_star = told("a b c", ["a 1 4", "b 2", "c 4 3", "m 1 2 3"])
        pairs = [(EDGE, TWINS), (EDGE, CHAIN), (EDGE, BRIDGE), (ONE_POST, LOOP_WITHIN), (STAR, fat_star)]
        # Other lines, or another number of posts: not lean first.
        pairs += [(SIX_POSTS, CHAIN), (TRIANGLE, LOOP_WITHIN), (told("a b", ["a", "b"]), TWINS)]
        for lean, fat in pairs:
            self.assertTrue(is_lean(lean))
            for one, other in ((lean, fat), (fat, lean), (fat, fat), (fat, TWINS), (LOOP_WITHIN, fat)):
                with self.assertRaises(NotLean):
                    road_between(one, other)

    def test_unlike(self):
        for one in UNLIKE:
            self.assertEqual(self.gone(one, one)[0], [])
            for other in UNLIKE:
                if other is not one:
                    with self.assertRaises(Unlike):
                        road_between(one, other)

    def test_unlike_by_chance(self):
        dice = random.Random(75)
        nets = lean_nets(dice, 40)
        refused = 0
        for one in nets:
            for other in nets:
                if [line[:2] for line in lines_of(one)] == [line[:2] for line in lines_of(other)]:
                    self.gone(one, other)
                else:
                    refused += 1
                    with self.assertRaises(Unlike):
                        road_between(one, other)
        self.assertGreater(refused, 100)

    def test_what_is_told_is_new(self):
        one = full_nets(random.Random(76), 1)[0]
        other = turned_about(random.Random(77), one, 12)
        road = road_between(one, other)
        right = list(road)
        self.assertGreater(len(road), 0)
        road.clear()
        self.assertEqual(road_between(one, other), right)
        road_between(one, one).append("x")
        self.assertEqual(road_between(one, one), [])


def shapes_by_places(nets):
    alike = {}
    for net in nets:
        alike.setdefault(tuple(line[:2] for line in lines_of(net)), []).append(net)
    return alike


if __name__ == "__main__":
    unittest.main()
