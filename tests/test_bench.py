import copy
import random
import unittest

from plates import EDGE, LOOP_WITHIN, ONE_POST, RING, SAMPLES, STAR, TRIANGLE, grown_nets, lean_nets, some_fraction
from plates import some_worth, spoil
from rimread.answers import answer_table
from rimread.bench import Bench
from rimread.deeds import deed_done
from rimread.errors import Loose, NoCorner, NoNet, NoPlane, NoRegion, NoStep, NoWire, NoWorth, RimError, Taken, TooMany
from rimread.heights import heights_of
from rimread.lenses import is_lean
from rimread.lines import lines_of
from rimread.nets import corners_of

REFUSED = [
    (NoCorner, ("lay", ("x", 0), ("a", 0), "w", (1, 1))),
    (NoRegion, ("lay", ("a", 0), ("a", 1), "w", (1, 1))),
    (Taken, ("grow", ("a", 0), "1", (1, 1), "n")),
    (NoWorth, ("weigh", "1", (1001, 1))),
    (NoWire, ("cut", "w")),
    (NoStep, ("chain", "m")),
]


class BenchTest(unittest.TestCase):
    def held(self, bench, net, dice):
        self.assertEqual(bench.net(), net)
        self.assertEqual(bench.table(), answer_table(net))
        self.assertIs(bench.lean(), is_lean(net))
        self.assertEqual(bench.lines(), lines_of(net))
        setting = [some_fraction(dice, 30) for post in net[0]]
        kept = list(setting)
        self.assertEqual(bench.heights(setting), heights_of(net, setting))
        self.assertEqual(setting, kept)
        for wire, worth in net[2]:
            self.assertEqual(bench.worth(wire), worth)
        for name in ("", "Q", "q9q9q9q9"):
            with self.assertRaises(NoWire):
                bench.worth(name)

    def test_refused_as_vetted(self):
        wrong = [
            (NoNet, (["A"], [("A", [])], [])),
            (NoNet, (["a"], [("a", ["w"])], [("w", (1, 1))])),
            (NoNet, (["a"], [("a", ["w", "w"])], [("w", (2, 4))])),
            (Loose, (["a"], [("a", []), ("m", [])], [])),
            (NoPlane, (["a"], [("a", ["v", "w", "v", "w"])], [("v", (1, 1)), ("w", (1, 1))])),
        ]
        for refusal, net in wrong:
            with self.assertRaises(refusal):
                Bench(net)

    def test_the_net_that_stands(self):
        dice = random.Random(141)
        for net in SAMPLES + [TRIANGLE] + grown_nets(dice, 20) + lean_nets(dice, 20):
            self.held(Bench(net), net, dice)

    def test_deeds(self):
        dice = random.Random(142)
        bench = Bench(ONE_POST)
        net = ONE_POST
        deeds = [
            ("grow", ("a", 0), "w", (1, 2), "m"), ("lay", ("a", 1), ("m", 0), "v", (3, 4)), ("weigh", "w", (5, 6)),
            ("twins", "v", "w"), ("lay", ("m", 0), ("m", 0), "l", (1, 1)), ("loop", "l"), ("dead", "v"),
        ]
        for deed in deeds:
            net = deed_done(net, deed)
            self.assertIsNone(bench.do(deed))
            self.held(bench, net, dice)
        self.assertEqual(bench.net(), ONE_POST)

    def test_by_hand(self):
        bench = Bench(STAR)
        self.assertIsNone(bench.do(("star", "m")))
        self.assertEqual(bench.net()[1], [("a", ["3", "2"]), ("b", ["1", "3"]), ("c", ["2", "1"])])
        self.assertEqual(bench.worth("1"), (1, 1))
        self.assertEqual(bench.worth("3"), (1, 3))
        self.assertEqual(bench.table(), answer_table(STAR))
        self.assertTrue(bench.lean())
        bench.do(("cut", "3"))
        with self.assertRaises(NoWire):
            bench.worth("3")
        self.assertEqual(bench.lines(), [(0, 3, ["2", "1"]), (1, 5, ["2"]), (2, 4, ["1"])])

    def test_what_is_refused_changes_nothing(self):
        dice = random.Random(143)
        bench = Bench(STAR)
        for refusal, deed in REFUSED:
            with self.assertRaises(refusal):
                bench.do(deed)
            self.held(bench, STAR, dice)
        for number in range(12):
            bench.do(("lay", ("a", 0), ("a", 0), "w%d" % number, (1, 1)))
        net = bench.net()
        with self.assertRaises(TooMany):
            bench.do(("lay", ("a", 0), ("a", 0), "w", (1, 1)))
        self.held(bench, net, dice)

    # Deeds by chance, some of them refused, on the bench and beside it.
    def test_many_deeds(self):
        dice = random.Random(144)
        net = copy.deepcopy(RING)
        bench = Bench(net)
        refused = 0
        for turn in range(300):
            names = [point for point, wires in net[1]]
            wires = [wire for wire, worth in net[2]] + ["q"]
            corner = dice.choice(corners_of(net))
            deed = dice.choice([
                ("lay", corner, dice.choice(corners_of(net)), "w%d" % turn, some_worth(dice)),
                ("lay", corner, corner, "w%d" % turn, some_worth(dice)),
                ("grow", corner, "w%d" % turn, some_worth(dice), "m%d" % turn),
                ("weigh", dice.choice(wires), some_worth(dice)), ("cut", dice.choice(wires)),
                ("star", dice.choice(names)), ("chain", dice.choice(names)), ("dead", dice.choice(wires)),
            ])
            try:
                net = deed_done(net, deed)
            except RimError as refusal:
                refused += 1
                with self.assertRaises(refusal.__class__):
                    bench.do(deed)
            else:
                bench.do(deed)
            self.assertEqual(bench.net(), net)
        self.held(bench, net, dice)
        self.assertGreater(refused, 50)
        self.assertLess(refused, 250)

    def test_the_bench_keeps_its_own(self):
        dice = random.Random(145)
        for net in (STAR, EDGE, LOOP_WITHIN, RING):
            handed_in = copy.deepcopy(net)
            bench = Bench(handed_in)
            self.assertEqual(handed_in, net)
            spoil(handed_in)
            self.held(bench, net, dice)
            spoil(bench.net())
            self.held(bench, net, dice)
            bench.table().clear()
            bench.table()[0].clear()
            for line in bench.lines():
                line[2].clear()
            bench.lines().clear()
            bench.heights([(1, 2) for post in net[0]]).clear()
            self.held(bench, net, dice)

    def test_two_benches(self):
        net = copy.deepcopy(STAR)
        one = Bench(net)
        other = Bench(net)
        one.do(("cut", "1"))
        self.assertEqual(other.net(), STAR)
        self.assertEqual(net, STAR)
        self.assertNotEqual(one.net(), STAR)

    # A net that was told stays as it is when the bench goes on.
    def test_nets_told_ahead_of_a_deed(self):
        bench = Bench(STAR)
        told_first = bench.net()
        bench.do(("weigh", "1", (9, 1)))
        bench.do(("star", "m"))
        self.assertEqual(told_first, STAR)


if __name__ == "__main__":
    unittest.main()
