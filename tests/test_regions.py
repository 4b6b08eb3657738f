import copy
import random
import unittest

from plates import DEAD_END, EDGE, LOOP_WITHIN, ONE_POST, POST_LOOP, RING, SAMPLES, SIX_POSTS, STAR, TWINS
from plates import drawn, grown_nets, regions_by_rim, told
from rimread.nets import corners_of
from rimread.regions import regions_of


def ordered(regions, corners):
    begun = []
    for region in regions:
        start = region.index(min(region, key=corners.index))
        begun.append(region[start:] + region[:start])
    return sorted(begun, key=lambda region: corners.index(region[0]))


class RegionsTest(unittest.TestCase):
    def test_one_post_without_wires(self):
        self.assertEqual(regions_of(ONE_POST), [[("a", 0)]])

    def test_several_posts_without_wires(self):
        self.assertEqual(regions_of(told("a b", ["a", "b"])), [[("a", 0), ("b", 0)]])
        # Behind a post comes the one ahead of it on the rim.
        self.assertEqual(regions_of(told("a b c", ["a", "b", "c"])), [[("a", 0), ("c", 0), ("b", 0)]])
        self.assertEqual(regions_of(told("c b a", ["a", "b", "c"])), [[("a", 0), ("b", 0), ("c", 0)]])
        self.assertEqual(regions_of(SIX_POSTS), [[(post, 0) for post in "afedcb"]])

    def test_a_wire_between_two_posts(self):
        self.assertEqual(regions_of(EDGE), [[("a", 0), ("b", 1)], [("a", 1), ("b", 0)]])

    def test_the_rim_leads_to_the_post_ahead(self):
        net = told("a b c", ["a w", "b w", "c"])
        self.assertEqual(regions_of(net), [[("a", 0), ("b", 1)], [("a", 1), ("c", 0), ("b", 0)]])
        net = told("a b c", ["a w", "c w", "b"])
        self.assertEqual(regions_of(net), [[("a", 0), ("c", 1), ("b", 0)], [("a", 1), ("c", 0)]])

    def test_a_loop(self):
        self.assertEqual(regions_of(POST_LOOP), [[("a", 0), ("a", 2)], [("a", 1)]])
        self.assertEqual(regions_of(LOOP_WITHIN), [
            [("a", 0), ("m", 1), ("m", 0), ("a", 1)], [("m", 2)]])
        self.assertEqual(regions_of(told("a", ["a t", "m w t w"])), [
            [("a", 0), ("m", 2), ("m", 1), ("a", 1)], [("m", 0)]])

    def test_a_loop_round_a_point(self):
        self.assertEqual(regions_of(told("a", ["a w t w", "m t"])), [
            [("a", 0), ("a", 3)], [("a", 1), ("m", 0), ("a", 2)]])

    def test_a_point_within_with_one_end(self):
        self.assertEqual(regions_of(told("a", ["a w", "m w"])), [[("a", 0), ("m", 0), ("a", 1)]])
        self.assertEqual(regions_of(DEAD_END), [
            [("a", 0), ("m", 0), ("a", 1), ("b", 1)], [("a", 2), ("b", 0)]])

    def test_two_wires_between_the_same_points(self):
        self.assertEqual(regions_of(TWINS), [
            [("a", 0), ("b", 2)], [("a", 1), ("b", 1)], [("a", 2), ("b", 0)]])

    def test_a_star(self):
        self.assertEqual(regions_of(STAR), [
            [("a", 0), ("m", 1), ("b", 1)], [("a", 1), ("c", 0), ("m", 0)], [("b", 0), ("m", 2), ("c", 1)]])

    def test_a_list_that_begins_elsewhere(self):
        self.assertEqual(regions_of(told("a b c", ["a 1", "b 2", "c 3", "m 2 3 1"])), [
            [("a", 0), ("m", 0), ("b", 1)], [("a", 1), ("c", 0), ("m", 2)], [("b", 0), ("m", 1), ("c", 1)]])
        self.assertEqual(regions_of(told("a b c", ["m 3 1 2", "a 1", "b 2", "c 3"])), [
            [("m", 0), ("c", 1), ("b", 0)], [("m", 1), ("a", 1), ("c", 0)], [("m", 2), ("b", 1), ("a", 0)]])

    def test_a_ring_with_a_dead_end_and_a_loop_in_it(self):
        self.assertEqual(regions_of(RING), [
            [("c", 0), ("z", 0), ("x", 1), ("a", 1)],
            [("c", 1), ("b", 0), ("y", 2), ("z", 2)],
            [("x", 0), ("z", 1), ("y", 0), ("x", 3), ("d", 0), ("x", 4)],
            [("x", 2), ("y", 1), ("b", 1), ("a", 0)],
            [("x", 5)],
        ])

    def test_each_corner_in_one_region_and_all_in_order(self):
        for net in SAMPLES + grown_nets(random.Random(7), 100):
            corners = corners_of(net)
            regions = regions_of(net)
            self.assertEqual(sorted(sum(regions, [])), sorted(corners))
            self.assertEqual(regions, ordered(regions, corners))
            self.assertEqual(len(net[1]) + len(regions), len(net[2]) + len(net[0]) + 1)

    def test_the_rim_taken_as_wires_tells_the_same(self):
        for net in SAMPLES + grown_nets(random.Random(8), 100):
            self.assertEqual(regions_of(net), ordered(regions_by_rim(net), corners_of(net)))

    def test_on_paper_each_region_lies_on_the_left(self):
        dice = random.Random(9)
        for number in range(60):
            net, spot = drawn(dice, dice.randint(3, 6), dice.randint(0, 10), dice.randint(0, 15))
            for region in regions_of(net):
                walk = [spot[point] for point, place in region]
                twice = sum(walk[k - 1][0] * walk[k][1] - walk[k - 1][1] * walk[k][0] for k in range(len(walk)))
                self.assertGreaterEqual(twice, 0)

    def test_nothing_is_changed_and_all_is_new(self):
        for net in SAMPLES:
            kept = copy.deepcopy(net)
            first = regions_of(net)
            right = copy.deepcopy(first)
            for region in first:
                region.clear()
            first.clear()
            self.assertEqual(net, kept)
            self.assertEqual(regions_of(net), right)

    def test_what_is_told_stays_when_the_net_is_changed(self):
        net = copy.deepcopy(RING)
        first = regions_of(net)
        net[0].reverse()
        for point, wires in net[1]:
            wires.clear()
        self.assertEqual(first, regions_of(RING))


if __name__ == "__main__":
    unittest.main()
