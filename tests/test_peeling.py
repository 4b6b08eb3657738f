import copy
import random
import unittest

from plates import CROSS, EDGE, ONE_POST, SIX_POSTS, STAR, TRIANGLE, full_nets, lean_nets, spoil, told
from rimread.lenses import is_lean
from rimread.nets import vet
from rimread.peeling import peelable, peeled

# Edges between posts side by side, spikes, and wires that can't be peeled.
BOTH = told("a b c d", ["c 3 6", "m 7 1 2", "a 1", "b 6 2", "d 4", "n 7 3 4"], {"6": (2, 5), "1": (1, 3)})
# An edge between posts that don't stand side by side.
ACROSS = told("a b c d", ["a 1 5 2", "b 3 1", "c 4 5 3", "d 2 4"], {"5": (9, 8)})
# Two posts with one wire each, both to a third.
FORK = told("a b c", ["a 9", "c 10 9", "b 10"])


class PeelableTest(unittest.TestCase):
    def test_edges_and_spikes_sorted(self):
        self.assertEqual(peelable(EDGE), [("edge", "w")])
        self.assertEqual(peelable(STAR), [("spike", "1"), ("spike", "2"), ("spike", "3")])
        self.assertEqual(peelable(TRIANGLE), [("edge", "1"), ("edge", "2"), ("edge", "3")])
        self.assertEqual(peelable(BOTH), [("spike", "1"), ("spike", "4"), ("edge", "6")])
        self.assertEqual(peelable(ACROSS), [("edge", str(number)) for number in range(1, 6)])

    def test_a_post_with_one_wire_to_a_post(self):
        self.assertEqual(peelable(FORK), [("edge", "10"), ("edge", "9")])

    def test_no_wires(self):
        self.assertEqual(peelable(ONE_POST), [])
        self.assertEqual(peelable(SIX_POSTS), [])

    def test_each_lean_net_with_a_wire_has_one(self):
        dice = random.Random(81)
        kinds = []
        for net in lean_nets(dice, 150) + full_nets(dice, 10):
            told_ones = peelable(net)
            self.assertEqual(bool(told_ones), bool(net[2]))
            self.assertEqual([wire for kind, wire in told_ones], sorted(wire for kind, wire in told_ones))
            self.assertEqual(dict((wire, kind) for kind, wire in told_ones), peelable_by_points(net))
            kinds += [kind for kind, wire in told_ones]
        self.assertEqual(set(kinds), {"edge", "spike"})

    def test_nothing_is_changed_and_all_is_new(self):
        for net in (STAR, BOTH, ONE_POST):
            kept = copy.deepcopy(net)
            first = peelable(net)
            right = list(first)
            first.append("x")
            self.assertEqual(peelable(net), right)
            self.assertEqual(net, kept)


def peelable_by_points(net):
    kinds = {}
    for wire, worth in net[2]:
        tied = [(point in net[0], len(wires)) for point, wires in net[1] if wire in wires]
        if [is_post for is_post, count in tied] == [True, True]:
            kinds[wire] = "edge"
        elif (True, 1) in tied:
            kinds[wire] = "spike"
    return kinds


class PeeledTest(unittest.TestCase):
    def test_edges(self):
        self.assertEqual(peeled(EDGE, "w"), told("a b", ["a", "b"]))
        self.assertEqual(peeled(TRIANGLE, "2"), told("a b c", ["a 1", "b 3 1", "c 3"], dict(TRIANGLE[2])))
        self.assertEqual(peeled(ACROSS, "5"), told("a b c d", ["a 1 2", "b 3 1", "c 4 3", "d 2 4"]))
        self.assertEqual(peeled(FORK, "10"), told("a b c", ["a 9", "c 9", "b"]))
        rows = ["c 3", "m 7 1 2", "a 1", "b 2", "d 4", "n 7 3 4"]
        self.assertEqual(peeled(BOTH, "6"), told("a b c d", rows, {"1": (1, 3)}))

    # The spike's end stands first, in the middle and last in the list of the point within.
    def test_spikes(self):
        worths = dict(STAR[2])
        self.assertEqual(peeled(STAR, "1"), told("a b c", ["a 2 3", "b 2", "c 3"], worths))
        self.assertEqual(peeled(STAR, "2"), told("a b c", ["a 1", "b 3 1", "c 3"], worths))
        self.assertEqual(peeled(STAR, "3"), told("a b c", ["a 1", "b 2", "c 1 2"], worths))

    def test_spikes_with_further_points(self):
        rows = ["c 3 6", "a 2 7", "b 6 2", "d 4", "n 7 3 4"]
        self.assertEqual(peeled(BOTH, "1"), told("a b c d", rows, {"6": (2, 5)}))
        rows = ["c 3 6", "m 7 1 2", "a 1", "b 6 2", "d 7 3"]
        self.assertEqual(peeled(BOTH, "4"), told("a b c d", rows, dict(BOTH[2])))

    def test_a_spike_in_the_middle_of_four(self):
        worths = dict(CROSS[2])
        self.assertEqual(peeled(CROSS, "2"), told("a b c d", ["a 1", "b 3 4 1", "c 3", "d 4"], worths))
        self.assertEqual(peeled(CROSS, "3"), told("a b c d", ["a 1", "b 2", "c 4 1 2", "d 4"], worths))

    def test_a_wire_called_as_a_point(self):
        net = told("a b c", ["a m", "b c", "c a", "m a m c"])
        self.assertEqual(peelable(net), [("spike", "a"), ("spike", "c"), ("spike", "m")])
        self.assertEqual(peeled(net, "m"), told("a b c", ["a c a", "b c", "c a"]))

    def held(self, net, kind, wire):
        kept = copy.deepcopy(net)
        left = peeled(net, wire)
        self.assertEqual(net, kept)
        self.assertTrue(vet(left))
        self.assertTrue(is_lean(left))
        self.assertEqual(left[0], net[0])
        self.assertEqual(left[2], [row for row in net[2] if row[0] != wire])
        if kind == "edge":
            right = [(point, [one for one in wires if one != wire]) for point, wires in net[1]]
        else:
            post, inner = sorted([point for point, wires in net[1] if wire in wires], key=lambda one: one not in net[0])
            turn = dict(net[1])[inner] * 2
            begin = turn.index(wire) + 1
            turn = turn[begin:turn.index(wire, begin)]
            right = [(point, turn if point == post else wires) for point, wires in net[1] if point != inner]
        self.assertEqual(left[1], right)
        return left

    # Wire by wire, until none is left.
    def test_many_nets(self):
        dice = random.Random(82)
        for net in lean_nets(dice, 60) + full_nets(dice, 10):
            for kind, wire in peelable(net):
                self.held(net, kind, wire)
            while net[2]:
                net = self.held(net, *dice.choice(peelable(net)))
            self.assertTrue(all(not wires and point in net[0] for point, wires in net[1]))

    def test_what_is_told_is_new(self):
        for net, wire in ((STAR, "2"), (BOTH, "6"), (TRIANGLE, "1"), (EDGE, "w")):
            kept = copy.deepcopy(net)
            left = peeled(net, wire)
            right = copy.deepcopy(left)
            spoil(left)
            self.assertEqual(net, kept)
            self.assertEqual(peeled(net, wire), right)


if __name__ == "__main__":
    unittest.main()
