import copy
import random
import unittest
from fractions import Fraction

from plates import DEAD_END, EDGE, LOOP_WITHIN, ONE_POST, POST_LOOP, RING, SAMPLES, SIXTY, SIX_POSTS, STAR, TWINS
from plates import grown, grown_nets, some_fraction, told
from rimread.heights import flows_of, heights_of
from rimread.nets import vet

LADDER = told(
    "a b",
    ["a w0", "m0 w0 w1 v0", "m1 w1 w2 v1 v0", "m2 w2 w3 v1", "b w3"],
    {"w0": (1, 3), "w1": (999, 1000), "w2": (7, 1), "w3": (1000, 999), "v0": (2, 1), "v1": (1, 1)},
)


def wholes(numbers):
    return [(number, 1) for number in numbers]


# As the document tells it: the worth times the height here less the height at the other end, over all ends.
def flows_by_hand(net, heights):
    ends = {}
    for point, wires in net[1]:
        for wire in wires:
            ends.setdefault(wire, []).append(point)
    worths = dict(net[2])
    flows = {}
    for point, wires in net[1]:
        flows[point] = Fraction(0)
        for wire in wires:
            far = ends[wire][1] if ends[wire][0] == point else ends[wire][0]
            flows[point] += Fraction(*worths[wire]) * (Fraction(*heights[point]) - Fraction(*heights[far]))
    return flows


class HeightsTest(unittest.TestCase):
    def balanced(self, net, setting):
        vet(net)
        told_heights = heights_of(net, setting)
        self.assertIsInstance(told_heights, list)
        self.assertEqual([point for point, height in told_heights], [row[0] for row in net[1]])
        heights = dict(told_heights)
        self.assertEqual([heights[post] for post in net[0]], setting)
        for point, height in told_heights:
            self.assertIsInstance(height, tuple)
            self.assertEqual(height, (Fraction(*height).numerator, Fraction(*height).denominator))
        flows = flows_by_hand(net, heights)
        for point in flows:
            if point not in net[0]:
                self.assertEqual(flows[point], 0)
        right = [(flows[post].numerator, flows[post].denominator) for post in net[0]]
        told_flows = flows_of(net, setting)
        self.assertEqual(told_flows, right)
        self.assertEqual(sum([Fraction(*flow) for flow in told_flows]), 0)

    def test_an_edge(self):
        self.assertEqual(heights_of(EDGE, wholes([5, 2])), [("a", (5, 1)), ("b", (2, 1))])
        self.assertEqual(flows_of(EDGE, wholes([5, 2])), wholes([2, -2]))

    def test_a_star(self):
        self.assertEqual(heights_of(STAR, wholes([6, 0, 0])), [("a", (6, 1)), ("b", (0, 1)), ("c", (0, 1)), ("m", (1, 1))])
        self.assertEqual(flows_of(STAR, wholes([6, 0, 0])), wholes([5, -2, -3]))
        self.assertEqual(heights_of(STAR, [(1, 2), (-1, 3), (1, 1)])[3], ("m", (17, 36)))

    def test_one_post(self):
        self.assertEqual(heights_of(ONE_POST, [(3, 7)]), [("a", (3, 7))])
        self.assertEqual(flows_of(ONE_POST, [(3, 7)]), wholes([0]))
        self.assertEqual(heights_of(LOOP_WITHIN, [(3, 7)]), [("a", (3, 7)), ("m", (3, 7))])
        self.assertEqual(flows_of(POST_LOOP, [(3, 7)]), wholes([0]))

    def test_posts_not_joined(self):
        setting = [(k, 7) for k in range(1, 7)]
        self.assertEqual(heights_of(SIX_POSTS, setting), list(zip("abcdef", setting)))
        self.assertEqual(flows_of(SIX_POSTS, setting), wholes([0] * 6))

    def test_two_wires_between_the_same_points(self):
        self.assertEqual(flows_of(TWINS, wholes([1, 0])), [(5, 6), (-5, 6)])
        net = told("a b", ["a 1 2", "m 1 3 2", "b 3"], {"1": (1, 1), "2": (2, 1), "3": (3, 1)})
        self.assertEqual(heights_of(net, wholes([4, 0])), [("a", (4, 1)), ("m", (2, 1)), ("b", (0, 1))])
        self.assertEqual(flows_of(net, wholes([4, 0])), wholes([6, -6]))

    def test_a_dead_end_has_the_height_of_what_it_hangs_on(self):
        self.assertEqual(heights_of(DEAD_END, wholes([3, 10])), [("a", (3, 1)), ("b", (10, 1)), ("m", (3, 1))])
        self.assertEqual(flows_of(DEAD_END, wholes([3, 10])), wholes([-5, 5]))
        heights = dict(heights_of(RING, wholes([1, 0, 0])))
        self.assertEqual(heights["d"], heights["x"])

    def test_a_loop_draws_nothing(self):
        with_loop = told("a b", ["a 1 l l", "m 1 k k 2", "b 2"], {"l": (5, 1), "k": (7, 3)})
        without = told("a b", ["a 1", "m 1 2", "b 2"])
        vet(with_loop)
        setting = [(1, 3), (5, 2)]
        self.assertEqual(heights_of(with_loop, setting), heights_of(without, setting))
        self.assertEqual(flows_of(with_loop, setting), flows_of(without, setting))

    def test_the_order_of_rows_and_of_posts(self):
        net = told("b a", ["m 1 2", "b 2", "a 1"], {"1": (1, 1), "2": (3, 1)})
        self.assertEqual(heights_of(net, wholes([4, 0])), [("m", (3, 1)), ("b", (4, 1)), ("a", (0, 1))])
        self.assertEqual(flows_of(net, wholes([4, 0])), wholes([3, -3]))
        swapped = (["a", "b"], net[1], net[2])
        self.assertEqual(flows_of(swapped, wholes([4, 0])), wholes([3, -3]))
        self.assertEqual(heights_of(swapped, wholes([4, 0])), [("m", (1, 1)), ("b", (0, 1)), ("a", (4, 1))])

    def test_samples_balance(self):
        dice = random.Random(10)
        for net in SAMPLES + [LADDER]:
            for number in range(5):
                self.balanced(net, [some_fraction(dice, 20) for post in net[0]])

    def test_grown_nets_balance(self):
        dice = random.Random(11)
        for net in grown_nets(dice, 80):
            self.balanced(net, [some_fraction(dice, 1000) for post in net[0]])

    def test_the_same_height_at_all_posts(self):
        dice = random.Random(12)
        for net in SAMPLES + grown_nets(dice, 40):
            height = some_fraction(dice, 1000)
            setting = [height] * len(net[0])
            self.assertEqual(heights_of(net, setting), [(point, height) for point, wires in net[1]])
            self.assertEqual(flows_of(net, setting), wholes([0] * len(net[0])))

    def test_fractions_of_sixty_figures(self):
        dice = random.Random(13)
        for net in SAMPLES + grown_nets(dice, 30):
            self.balanced(net, [some_fraction(dice, SIXTY) for post in net[0]])

    # Slow ways take minutes or never end here; there is no clock to look at.
    def test_many_large_nets(self):
        dice = random.Random(14)
        for number in range(40):
            self.balanced(grown(dice, 6, 10, 15), [some_fraction(dice, SIXTY) for post in range(6)])

    def test_worths_of_many_figures(self):
        dice = random.Random(15)
        net = grown(dice, 6, 10, 15)
        worths = [(wire, (10 ** 80 + 1, abs(some_fraction(dice, SIXTY)[0]) * 10 ** 90 + 1)) for wire, worth in net[2]]
        worths = [(wire, (Fraction(*worth).numerator, Fraction(*worth).denominator)) for wire, worth in worths]
        self.balanced((net[0], net[1], worths), [some_fraction(dice, SIXTY) for post in range(6)])

    def test_nothing_is_changed_and_all_is_new(self):
        for net in SAMPLES:
            setting = [(k, 3) if k % 3 else (k // 3, 1) for k in range(1, len(net[0]) + 1)]
            kept = copy.deepcopy((net, setting))
            heights = heights_of(net, setting)
            flows = flows_of(net, setting)
            self.assertEqual((net, setting), kept)
            right = (list(heights), list(flows))
            heights.clear()
            flows.clear()
            self.assertEqual((heights_of(net, setting), flows_of(net, setting)), right)
            self.assertEqual((net, setting), kept)

    def test_what_is_told_stays_when_the_setting_is_changed(self):
        setting = wholes([6, 0, 0])
        heights = heights_of(STAR, setting)
        flows = flows_of(STAR, setting)
        setting[0] = (0, 1)
        self.assertEqual(heights[0], ("a", (6, 1)))
        self.assertEqual(flows, wholes([5, -2, -3]))
        self.assertEqual(flows_of(STAR, setting), wholes([0, 0, 0]))


if __name__ == "__main__":
    unittest.main()
