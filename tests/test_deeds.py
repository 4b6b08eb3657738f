import copy
import itertools
import random
import unittest

from plates import CHAIN, DEAD_END, EDGE, LOOP_WITHIN, ONE_POST, POST_LOOP, RING, SAMPLES, STAR, TRIANGLE, TWINS
from plates import grown_nets, laid, regions_by_rim, some_worth, spoil, told
from rimread.deeds import deed_done
from rimread.errors import NoCorner, NoRegion, NoStep, NoWire, NoWorth, Taken, TooMany
from rimread.nets import corners_of, points_within, vet
from rimread.steps import step_done, steps_for

BARE = told("a b", ["a", "b"])
# All its corners lie in one region.
TREE = told("a", ["n 2", "a 1", "m 1 2"])
# A region of three corners away from the rim; in all 13 wires, ten of them to dead ends.
TEN = told(
    "a b c",
    ["a 0 1 2 3 4 5 6 7 8 9 x y", "b z x", "c y z"] + ["d%d %d" % (number, number) for number in range(10)],
)
# Two loops more.
FIFTEEN = told("a b c", ["a 0 1 2 3 4 5 6 7 8 9 x y", "b k k l l z x", "c y z"] + [
    "d%d %d" % (number, number) for number in range(10)])


def without(net, count):
    posts, rows, worths = net
    for number in range(count):
        posts, rows, worths = deed_done((posts, rows, worths), ("cut", str(number)))
    return (posts, rows, worths)


class DoneTest(unittest.TestCase):
    def done(self, net, deed, rows, worths=None):
        kept = copy.deepcopy(net)
        left = deed_done(net, deed)
        self.assertEqual(net, kept)
        self.assertTrue(vet(left))
        self.assertEqual(left, told(" ".join(net[0]), rows, {**dict(net[2]), **(worths or {})}))

    def test_lay_between_two_points(self):
        new = {"w": (5, 7)}
        self.done(BARE, ("lay", ("a", 0), ("b", 0), "w", (5, 7)), ["a w", "b w"], new)
        rows = ["a w 1", "b 2 w", "c 3", "m 1 2 3"]
        self.done(STAR, ("lay", ("a", 0), ("b", 1), "w", (5, 7)), rows, new)
        self.done(STAR, ("lay", ("b", 1), ("a", 0), "w", (5, 7)), rows, new)
        rows = ["a 1 w", "b 2", "c w 3", "m 1 2 3"]
        self.done(STAR, ("lay", ("a", 1), ("c", 0), "w", (5, 7)), rows, new)
        # A point within: ahead of the end of the corner's place.
        self.done(STAR, ("lay", ("a", 0), ("m", 1), "w", (5, 7)), ["a w 1", "b 2", "c 3", "m 1 w 2 3"], new)
        self.done(STAR, ("lay", ("m", 0), ("a", 1), "w", (5, 7)), ["a 1 w", "b 2", "c 3", "m w 1 2 3"], new)

    def test_lay_between_two_corners_of_one_point(self):
        for one, other in ((0, 1), (1, 0)):
            self.done(TREE, ("lay", ("m", one), ("m", other), "w", (1, 2)), ["n 2", "a 1", "m w 1 w 2"], {"w": (1, 2)})
        fork = told("a", ["a 1", "m 1 2 3", "n 2", "o 3"])
        rows = ["a 1", "m 1 w 2 w 3", "n 2", "o 3"]
        self.done(fork, ("lay", ("m", 1), ("m", 2), "w", (1, 1)), rows)
        self.done(fork, ("lay", ("m", 2), ("m", 1), "w", (1, 1)), rows)
        self.done(fork, ("lay", ("m", 0), ("m", 2), "w", (1, 1)), ["a 1", "m w 1 2 w 3", "n 2", "o 3"])

    def test_lay_at_one_corner_twice(self):
        self.done(ONE_POST, ("lay", ("a", 0), ("a", 0), "w", (1, 2)), ["a w w"], {"w": (1, 2)})
        self.done(STAR, ("lay", ("m", 0), ("m", 0), "w", (1, 1)), ["a 1", "b 2", "c 3", "m w w 1 2 3"])
        self.done(STAR, ("lay", ("m", 2), ("m", 2), "w", (1, 1)), ["a 1", "b 2", "c 3", "m 1 2 w w 3"])
        self.done(STAR, ("lay", ("b", 1), ("b", 1), "w", (1, 1)), ["a 1", "b 2 w w", "c 3", "m 1 2 3"])
        self.done(TREE, ("lay", ("n", 0), ("n", 0), "w", (1, 1)), ["n w w 2", "a 1", "m 1 2"])

    def test_lay_at_a_posts_first_and_last_corner(self):
        self.done(TREE, ("lay", ("a", 0), ("a", 1), "w", (1, 1)), ["n 2", "a w 1 w", "m 1 2"])
        self.done(TREE, ("lay", ("a", 1), ("a", 0), "w", (1, 1)), ["n 2", "a w 1 w", "m 1 2"])
        self.done(POST_LOOP, ("lay", ("a", 2), ("a", 0), "v", (1, 1)), ["a v w w v"])
        self.done(EDGE, ("lay", ("a", 1), ("b", 0), "v", (1, 1)), ["a w v", "b v w"])

    def test_lay_keeps_the_worths_sorted(self):
        for wire in ("0", "10", "2a", "z"):
            left = deed_done(STAR, ("lay", ("a", 0), ("b", 1), wire, (1000, 999)))
            self.assertEqual(left[2], sorted(STAR[2] + [(wire, (1000, 999))]))

    def test_grow(self):
        new = {"w": (1, 1000)}
        self.done(ONE_POST, ("grow", ("a", 0), "w", (1, 1000), "n"), ["a w", "n w"], new)
        self.done(STAR, ("grow", ("a", 0), "w", (1, 1000), "n"), ["a w 1", "b 2", "c 3", "m 1 2 3", "n w"], new)
        self.done(STAR, ("grow", ("a", 1), "w", (1, 1000), "n"), ["a 1 w", "b 2", "c 3", "m 1 2 3", "n w"], new)
        self.done(STAR, ("grow", ("m", 0), "w", (1, 1000), "n"), ["a 1", "b 2", "c 3", "m w 1 2 3", "n w"], new)
        self.done(STAR, ("grow", ("m", 2), "w", (1, 1000), "1"), ["a 1", "b 2", "c 3", "m 1 2 w 3", "1 w"], new)
        # A wire may be called as a point is, the new point as well.
        self.done(BARE, ("grow", ("b", 0), "a", (1, 1), "x"), ["a", "b a", "x a"])
        self.done(BARE, ("grow", ("b", 0), "x", (1, 1), "x"), ["a", "b x", "x x"])

    def test_cut_of_a_wire_on_which_nothing_hangs(self):
        self.done(STAR, ("cut", "1"), ["a", "b 2", "c 3", "m 2 3"])
        self.done(EDGE, ("cut", "w"), ["a", "b"])
        self.done(POST_LOOP, ("cut", "w"), ["a"])
        self.done(TWINS, ("cut", "1"), ["a 2", "b 2"])
        self.done(LOOP_WITHIN, ("cut", "l"), ["a t", "m t"])

    def test_cut_of_a_wire_on_which_points_hang(self):
        self.done(DEAD_END, ("cut", "1"), ["a w", "b w"])
        self.done(LOOP_WITHIN, ("cut", "t"), ["a"])
        self.done(TREE, ("cut", "2"), ["a 1", "m 1"])
        self.done(TREE, ("cut", "1"), ["a"])
        self.done(RING, ("cut", "7"), ["c 3", "x 6 1 4 8 8", "a 1", "y 4 2 5", "b 2", "z 6 5 3"])
        net = told("a b", ["x 1 2 3", "a 1 9", "y 2 4", "b 9", "z 3 4 5 5"], {"9": (2, 3)})
        self.done(net, ("cut", "1"), ["a 9", "b 9"])
        # A ring hangs on as long as one wire holds it.
        self.done(net, ("cut", "2"), ["x 1 3", "a 1 9", "y 4", "b 9", "z 3 4 5 5"])

    def test_weigh(self):
        rows = ["a 1", "b 2", "c 3", "m 1 2 3"]
        for worth in ((1, 1), (1000, 1), (1, 1000), (999, 1000)):
            self.done(STAR, ("weigh", "2", worth), rows, {"2": worth})

    def test_each_kind_of_step(self):
        pairs = [
            (POST_LOOP, ("loop", "w")), (LOOP_WITHIN, ("loop", "l")), (DEAD_END, ("dead", "1")), (CHAIN, ("chain", "m")),
            (TWINS, ("twins", "1", "2")), (STAR, ("star", "m")), (TRIANGLE, ("ring", "3", "1", "2", "new")),
        ]
        for net, step in pairs:
            left = deed_done(net, step)
            self.assertEqual(left, step_done(net, step))
            self.assertNotEqual(left, net)
        for net in SAMPLES + grown_nets(random.Random(131), 30):
            for step in steps_for(net):
                self.assertEqual(deed_done(net, step), step_done(net, step))

    def test_many_deeds(self):
        dice = random.Random(132)
        for net in SAMPLES + grown_nets(dice, 100):
            posts, rows, worths = net
            if len(worths) < 15:
                worth = some_worth(dice)
                region = dice.choice(regions_by_rim(net))
                one, other = dice.choice(region), dice.choice(region)
                right = {point: list(wires) for point, wires in rows}
                laid(right, one, other, "q9")
                left = deed_done(net, ("lay", one, other, "q9", worth))
                self.assertEqual(left, (posts, list(right.items()), sorted(worths + [("q9", worth)])))
                self.assertTrue(vet(left))
                if len(points_within(net)) < 10:
                    left = deed_done(net, ("grow", one, "q9", worth, "q9"))
                    right = [(point, list(wires)) for point, wires in rows]
                    dict(right)[one[0]].insert(one[1], "q9")
                    self.assertEqual(left, (posts, right + [("q9", ["q9"])], sorted(worths + [("q9", worth)])))
                    self.assertEqual(deed_done(left, ("cut", "q9")), net)
            for wire, worth in worths:
                self.assertTrue(vet(deed_done(net, ("cut", wire))))

    # Up to fifteen wires and ten points within.
    def test_the_last_that_may_come(self):
        fourteen = deed_done(FIFTEEN, ("cut", "l"))
        self.assertEqual(len(deed_done(fourteen, ("lay", ("a", 0), ("b", 4), "w", (1, 1)))[2]), 15)
        nine = without(FIFTEEN, 1)
        self.assertEqual(len(points_within(nine)), 9)
        grown_one = deed_done(nine, ("grow", ("a", 0), "w", (1, 1), "n"))
        self.assertEqual((len(grown_one[2]), len(points_within(grown_one))), (15, 10))
        self.assertEqual(len(points_within(deed_done(nine, ("ring", "x", "y", "z", "n")))), 10)
        # Where nothing comes, what there is is no hindrance.
        for deed in (("cut", "x"), ("weigh", "x", (1, 3)), ("loop", "k"), ("dead", "0")):
            deed_done(FIFTEEN, deed)

    def test_all_is_new(self):
        deeds = [
            (STAR, ("lay", ("a", 0), ("b", 1), "w", (1, 1))), (STAR, ("grow", ("a", 0), "w", (1, 1), "n")),
            (STAR, ("cut", "1")), (STAR, ("weigh", "1", (1, 9))), (STAR, ("star", "m")),
            (TRIANGLE, ("ring", "1", "2", "3", "n")),
        ]
        for net, deed in deeds:
            kept = copy.deepcopy(net)
            left = deed_done(net, deed)
            right = copy.deepcopy(left)
            spoil(left)
            self.assertEqual(net, kept)
            self.assertEqual(deed_done(net, deed), right)


class RefusedTest(unittest.TestCase):
    def refused(self, refusal, net, deed):
        kept = copy.deepcopy(net)
        with self.assertRaises(refusal) as caught:
            deed_done(net, deed)
        self.assertIs(caught.exception.__class__, refusal)
        self.assertEqual(net, kept)

    def test_no_corner(self):
        for corner in (("x", 0), ("a", 2), ("a", -1), ("m", 3), ("m", -1), ("1", 0), ("", 0), ("a", 10 ** 300)):
            self.refused(NoCorner, STAR, ("lay", corner, ("a", 0), "w", (1, 1)))
            self.refused(NoCorner, STAR, ("lay", ("a", 0), corner, "w", (1, 1)))
            self.refused(NoCorner, STAR, ("lay", corner, corner, "w", (1, 1)))
            self.refused(NoCorner, STAR, ("grow", corner, "w", (1, 1), "n"))
        self.refused(NoCorner, ONE_POST, ("grow", ("a", 1), "w", (1, 1), "n"))

    def test_no_region(self):
        pairs = [(("a", 0), ("a", 1)), (("a", 0), ("c", 1)), (("m", 0), ("m", 1)), (("b", 1), ("m", 0))]
        for one, other in pairs:
            self.refused(NoRegion, STAR, ("lay", one, other, "w", (1, 1)))
            self.refused(NoRegion, STAR, ("lay", other, one, "w", (1, 1)))
        for net in SAMPLES:
            regions = regions_by_rim(net)
            for one, other in itertools.combinations(corners_of(net), 2):
                deed = ("lay", one, other, "q9", (1, 1))
                if any(one in region and other in region for region in regions):
                    self.assertTrue(vet(deed_done(net, deed)))
                else:
                    self.refused(NoRegion, net, deed)

    def test_taken(self):
        for name in ("", "W", "w ", "w-1", "123456789", "1", "2", "3"):
            self.refused(Taken, STAR, ("lay", ("a", 0), ("b", 1), name, (1, 1)))
            self.refused(Taken, STAR, ("grow", ("a", 0), name, (1, 1), "n"))
        for name in ("", "N", "n ", "n-1", "123456789", "a", "b", "m"):
            self.refused(Taken, STAR, ("grow", ("a", 0), "w", (1, 1), name))

    def test_no_worth(self):
        wrong = [(0, 1), (-1, 2), (1, -2), (2, 4), (1, 0), (1001, 1), (1, 1001), (1001, 1000), (10 ** 60, 1)]
        for worth in wrong:
            self.refused(NoWorth, STAR, ("lay", ("a", 0), ("b", 1), "w", worth))
            self.refused(NoWorth, STAR, ("grow", ("a", 0), "w", worth, "n"))
            self.refused(NoWorth, STAR, ("weigh", "1", worth))

    def test_no_wire(self):
        for wire in ("w", "a", "m", "", "W"):
            self.refused(NoWire, STAR, ("cut", wire))
            self.refused(NoWire, STAR, ("weigh", wire, (1, 1)))
            # NoWire comes first.
            self.refused(NoWire, STAR, ("weigh", wire, (0, 1)))
            self.refused(NoWire, STAR, ("weigh", wire, (1, 1001)))

    # All faults by themselves, by twos and more at once: the first in this order is told.
    def test_lay_in_order(self):
        order = ["first", "second", "region", "name", "worth", "wires"]
        refusals = dict(zip(order, [NoCorner, NoCorner, NoRegion, Taken, NoWorth, TooMany]))
        for count in range(1, 7):
            for faults in itertools.combinations(order, count):
                net = FIFTEEN if "wires" in faults else TEN
                one = ("x", 0) if "first" in faults else ("a", 0)
                other = ("c", 7) if "second" in faults else ("c", 1) if "region" in faults else ("b", len(net[1][1][1]))
                for name in ("", "x") if "name" in faults else ("w",):
                    for worth in ((0, 1), (1, 1001)) if "worth" in faults else ((1, 1),):
                        self.refused(refusals[faults[0]], net, ("lay", one, other, name, worth))

    def test_grow_in_order(self):
        order = ["corner", "wire", "point", "worth", "wires", "points"]
        refusals = dict(zip(order, [NoCorner, Taken, Taken, NoWorth, TooMany, TooMany]))
        nets = {(): without(TEN, 1), ("points",): TEN, ("wires", "points"): FIFTEEN}
        full = without(FIFTEEN, 1)
        nets["wires",] = deed_done(full, ("lay", ("a", 0), ("a", 0), "v", (1, 1)))
        self.assertEqual({key: (len(net[2]), len(points_within(net))) for key, net in nets.items()}, {
            (): (12, 9), ("points",): (13, 10), ("wires", "points"): (15, 10), ("wires",): (15, 9)})
        for count in range(1, 7):
            for faults in itertools.combinations(order, count):
                net = nets[tuple(fault for fault in faults if fault in ("wires", "points"))]
                corner = ("a", 99) if "corner" in faults else ("a", 0)
                worth = (1, 1001) if "worth" in faults else (1, 1)
                for wire in ("W", "x") if "wire" in faults else ("w",):
                    for point in ("N", "d9") if "point" in faults else ("n",):
                        self.refused(refusals[faults[0]], net, ("grow", corner, wire, worth, point))

    def test_nets_with_more_than_that(self):
        net = told("a b c", ["a x y", "b z x", "c y z"] + ["d%d v%d v%d" % (number, number, number) for number in range(12)])
        net = (net[0], [("a", ["u%d" % number for number in range(12)] + ["x", "y"])] + net[1][1:], net[2])
        rows = [(point, wires if point[0] != "d" else ["u" + point[1:]] + wires) for point, wires in net[1]]
        worths = sorted(net[2] + [("u%d" % number, (1, 1)) for number in range(12)])
        net = (net[0], rows, worths)
        vet(net)
        self.refused(TooMany, net, ("lay", ("a", 0), ("a", 0), "w", (1, 1)))
        self.refused(TooMany, net, ("grow", ("a", 0), "w", (1, 1), "n"))
        self.refused(TooMany, net, ("ring", "x", "y", "z", "n"))

    def test_steps(self):
        steps = [
            ("loop", "1"), ("loop", "x"), ("dead", "1"), ("chain", "m"), ("chain", "a"), ("twins", "1", "2"), ("star", "a"),
            ("star", "x"), ("ring", "1", "2", "3", "n"),
        ]
        for step in steps:
            self.refused(NoStep, STAR, step)

    def test_rings_at_ten_points_within(self):
        self.refused(TooMany, TEN, ("ring", "x", "y", "z", "n"))
        # What can't be done is no step, first.
        self.refused(NoStep, TEN, ("ring", "x", "y", "0", "n"))
        self.refused(NoStep, TEN, ("ring", "x", "y", "z", "a"))
        self.refused(NoStep, TEN, ("ring", "x", "y", "z", "N"))
        self.refused(NoStep, TEN, ("star", "d0"))


if __name__ == "__main__":
    unittest.main()
