import copy
import itertools
import random
import unittest

from plates import BRIDGE, CHAIN, CROSS, DEAD_END, EDGE, LOOP_WITHIN, ONE_POST, POST_LOOP, RING, SAMPLES, SIX_POSTS
from plates import STAR, TRIANGLE, TWINS, drawn_nets, grown, grown_nets, spoil, told
from rimread.answers import answer_table
from rimread.errors import NoStep
from rimread.lines import lines_of
from rimread.nets import vet
from rimread.steps import step_done, steps_for

THREE = {"1": (1, 2), "2": (2, 3), "3": (3, 4)}
INNER_RING = told("a b c", ["c 3", "x 6 1 4", "a 1", "y 4 2 5", "b 2", "z 6 5 3"], {"4": (1, 2), "5": (2, 3), "6": (3, 4)})


# By the lines' places: for each wire the two lines that cross it.
def crossed_by(net):
    lines = {}
    for first, last, wires in lines_of(net):
        for wire in wires:
            lines.setdefault(wire, []).append((str(first), str(last)))
    return {wire: sorted(both) for wire, both in lines.items()}


# A net but for the name and the row of one point, and for where its list begins.
def but_for(net, point):
    rows = [row for row in net[1] if row[0] != point]
    wires = dict(net[1])[point]
    start = wires.index(min(wires))
    return (net[0], rows, net[2], wires[start:] + wires[:start])


class StepTest(unittest.TestCase):
    def comes(self, net, step, posts, rows, worths):
        vet(net)
        kept = copy.deepcopy(net)
        got = step_done(net, step)
        self.assertIsInstance(got, tuple)
        self.assertEqual(got, told(posts, rows, worths))
        self.assertEqual(net, kept)
        self.assertTrue(vet(got))
        self.assertEqual(answer_table(got), answer_table(net))

    def refused(self, net, step):
        kept = copy.deepcopy(net)
        with self.assertRaises(NoStep):
            step_done(net, step)
        self.assertEqual(net, kept)


class LoopTest(StepTest):
    def test_at_a_post(self):
        self.comes(POST_LOOP, ("loop", "w"), "a", ["a"], {})
        net = told("a b", ["b 2", "a 1 l 3 l 2", "m 1", "n 3"], {"2": (3, 2)})
        self.comes(net, ("loop", "l"), "a b", ["b 2", "a 1 3 2", "m 1", "n 3"], {"2": (3, 2)})

    def test_at_a_point_within(self):
        self.comes(LOOP_WITHIN, ("loop", "l"), "a", ["a t", "m t"], {})
        self.comes(told("a", ["m l t l", "a t"]), ("loop", "l"), "a", ["m t", "a t"], {})
        net = told("a", ["m l 1 t l 2", "a t", "n 1", "o 2"])
        self.comes(net, ("loop", "l"), "a", ["m 1 t 2", "a t", "n 1", "o 2"], {})

    def test_refused(self):
        self.refused(EDGE, ("loop", "w"))
        self.refused(LOOP_WITHIN, ("loop", "t"))
        self.refused(LOOP_WITHIN, ("loop", "x"))
        self.refused(LOOP_WITHIN, ("loop", "m"))
        self.refused(ONE_POST, ("loop", "a"))


class DeadTest(StepTest):
    def test_at_a_post(self):
        self.comes(DEAD_END, ("dead", "1"), "a b", ["a w", "b w"], {"w": (5, 7)})
        self.comes(told("a", ["m w", "a w"]), ("dead", "w"), "a", ["a"], {})

    def test_at_a_point_within(self):
        net = told("a b", ["n d", "b 2", "m 2 d 1", "a 1"], {"2": (2, 7)})
        self.comes(net, ("dead", "d"), "a b", ["b 2", "m 2 1", "a 1"], {"2": (2, 7)})
        self.comes(told("a", ["a l t l", "m t"]), ("dead", "t"), "a", ["a l l"], {})

    def test_refused(self):
        # A post with one end is no dead end.
        self.refused(EDGE, ("dead", "w"))
        self.refused(STAR, ("dead", "1"))
        # The point has another end.
        self.refused(CHAIN, ("dead", "1"))
        self.refused(told("a", ["a t", "m t d", "n d"]), ("dead", "t"))
        self.refused(LOOP_WITHIN, ("dead", "t"))
        self.refused(POST_LOOP, ("dead", "w"))
        self.refused(DEAD_END, ("dead", "x"))
        self.refused(DEAD_END, ("dead", "m"))


class ChainTest(StepTest):
    def test_to_two_points(self):
        self.comes(CHAIN, ("chain", "m"), "a b", ["a 1", "b 1"], {"1": (1, 5)})

    def test_the_lesser_name_at_either_end(self):
        worths = {"1": (1, 2), "2": (1, 3), "5": (2, 1), "6": (4, 1)}
        for within in ("m 1 2", "m 2 1"):
            net = told("a b", [within, "b 5 2 6", "a 1", "x 5", "y 6"], worths)
            self.comes(net, ("chain", "m"), "a b", ["b 5 1 6", "a 1", "x 5", "y 6"], dict(worths, **{"1": (1, 5)}))
            net = told("a b", [within, "b 5 1 6", "a 2", "x 5", "y 6"], worths)
            self.comes(net, ("chain", "m"), "a b", ["b 5 1 6", "a 1", "x 5", "y 6"], dict(worths, **{"1": (1, 5)}))

    def test_names_are_compared_as_texts(self):
        self.comes(told("a b", ["a 9", "m 9 10", "b 10"]), ("chain", "m"), "a b", ["a 10", "b 10"], {"10": (1, 2)})

    def test_to_one_point(self):
        net = told("a", ["a 1 2", "m 2 1"], {"2": (2, 1)})
        self.comes(net, ("chain", "m"), "a", ["a 1 1"], {"1": (2, 3)})
        net = told("a", ["a t", "n 3 2 t", "m 2 3"])
        self.comes(net, ("chain", "m"), "a", ["a t", "n 2 2 t"], {"2": (1, 2)})

    def test_refused(self):
        self.refused(TRIANGLE, ("chain", "a"))
        self.refused(TWINS, ("chain", "b"))
        self.refused(DEAD_END, ("chain", "m"))
        self.refused(STAR, ("chain", "m"))
        self.refused(told("a", ["a", "m w w"]), ("chain", "m"))
        self.refused(CHAIN, ("chain", "x"))
        self.refused(CHAIN, ("chain", "1"))


class TwinsTest(StepTest):
    def test_side_by_side(self):
        for step in (("twins", "1", "2"), ("twins", "2", "1")):
            self.comes(TWINS, step, "a b", ["a 1", "b 1"], {"1": (5, 6)})

    def test_not_side_by_side(self):
        net = told("a b", ["a 9 3 10", "b 10 9", "m 3"], {"9": (1, 2), "10": (1, 3)})
        for step in (("twins", "9", "10"), ("twins", "10", "9")):
            self.comes(net, step, "a b", ["a 3 10", "b 10", "m 3"], {"10": (5, 6)})

    def test_at_points_within(self):
        net = told("a", ["a t", "m 1 2 t", "n 1 d 2", "o d"], {"2": (2, 5)})
        self.comes(net, ("twins", "1", "2"), "a", ["a t", "m 1 t", "n 1 d", "o d"], {"1": (7, 5)})

    def test_two_of_three(self):
        net = told("a b", ["a 1 2 3", "b 3 2 1"], {"1": (1, 2), "3": (1, 4)})
        self.comes(net, ("twins", "3", "1"), "a b", ["a 1 2", "b 2 1"], {"1": (3, 4)})

    def test_refused(self):
        self.refused(TRIANGLE, ("twins", "1", "2"))
        self.refused(told("a b c d", ["a 1", "b 1", "c 2", "d 2"]), ("twins", "1", "2"))
        self.refused(TWINS, ("twins", "1", "1"))
        self.refused(told("a", ["a 1 1 2 2"]), ("twins", "1", "2"))
        self.refused(told("a", ["a 1 2 2 1"]), ("twins", "1", "2"))
        self.refused(told("a b", ["a 1 1 2", "b 2"]), ("twins", "1", "2"))
        self.refused(TWINS, ("twins", "1", "x"))
        self.refused(TWINS, ("twins", "x", "2"))


class StarTest(StepTest):
    def test_to_three_points(self):
        worths = {"1": (1, 1), "2": (1, 2), "3": (1, 3)}
        self.comes(STAR, ("star", "m"), "a b c", ["a 3 2", "b 1 3", "c 2 1"], worths)

    def test_wherever_the_list_begins_and_among_other_ends(self):
        worths = {"1": (1, 1), "2": (2, 1), "3": (3, 1), "5": (4, 1)}
        new = {"1": (1, 1), "2": (1, 2), "3": (1, 3), "5": (4, 1)}
        for within in ("m 1 2 3", "m 2 3 1", "m 3 1 2"):
            net = told("a b c", ["c 5 3 6", within, "b 2", "a 1 5", "x 6"], worths)
            self.comes(net, ("star", "m"), "a b c", ["c 5 2 1 6", "b 1 3", "a 3 2 5", "x 6"], new)

    def test_to_two_points(self):
        net = told("a b", ["a 1 2", "b 3", "m 1 3 2"], {"1": (1, 1), "2": (2, 1), "3": (3, 1)})
        new = {"1": (1, 1), "2": (1, 2), "3": (1, 3)}
        self.comes(net, ("star", "m"), "a b", ["a 2 3 3 1", "b 1 2"], new)

    def test_to_one_point(self):
        net = told("a", ["a 1 2 3", "m 3 2 1"], {"1": (1, 1), "2": (2, 1), "3": (3, 1)})
        new = {"1": (1, 1), "2": (1, 2), "3": (1, 3)}
        self.comes(net, ("star", "m"), "a", ["a 2 3 3 1 1 2"], new)
        net = told("a", ["n 1 2 3 t", "m 3 2 1", "a t"])
        third = {"1": (1, 3), "2": (1, 3), "3": (1, 3)}
        self.comes(net, ("star", "m"), "a", ["n 2 3 3 1 1 2 t", "a t"], third)

    def test_refused(self):
        self.refused(told("a b c d", ["a 1 2 3", "b 1", "c 2", "d 3"]), ("star", "a"))
        self.refused(CHAIN, ("star", "m"))
        self.refused(CROSS, ("star", "m"))
        self.refused(LOOP_WITHIN, ("star", "m"))
        self.refused(DEAD_END, ("star", "m"))
        self.refused(STAR, ("star", "x"))
        self.refused(STAR, ("star", "1"))


class RingTest(StepTest):
    def test_at_posts_in_each_order(self):
        new = {"1": (29, 12), "2": (29, 16), "3": (29, 18)}
        for wires in itertools.permutations("123"):
            self.comes(TRIANGLE, ("ring",) + wires + ("m",), "a b c", ["a 3", "b 2", "c 1", "m 1 3 2"], new)

    def test_from_the_first_corner_on(self):
        net = told("a b c", ["b 3 1", "c 2 3", "a 1 2"], THREE)
        new = {"1": (29, 12), "2": (29, 16), "3": (29, 18)}
        self.comes(net, ("ring", "1", "2", "3", "m"), "a b c", ["b 2", "c 1", "a 3", "m 3 2 1"], new)

    def test_at_points_within_in_each_order(self):
        rows = ["c 3", "x 5 1", "a 1", "y 6 2", "b 2", "z 4 3", "new 4 5 6"]
        new = {"4": (29, 12), "5": (29, 16), "6": (29, 18)}
        for wires in itertools.permutations("456"):
            self.comes(INNER_RING, ("ring",) + wires + ("new",), "a b c", rows, new)

    def test_the_corner_between_the_last_end_and_the_first(self):
        net = told("a b c", ["c 3", "x 1 4 6", "a 1", "y 5 4 2", "b 2", "z 3 6 5"], {"4": (1, 2), "5": (2, 3), "6": (3, 4)})
        new = {"4": (29, 12), "5": (29, 16), "6": (29, 18)}
        rows = ["c 3", "x 1 5", "a 1", "y 6 2", "b 2", "z 3 4", "new 4 5 6"]
        self.comes(net, ("ring", "4", "5", "6", "new"), "a b c", rows, new)

    def test_two_corners_at_one_point(self):
        net = told("a b", ["a 2 3 3 1", "b 1 2"], {"1": (1, 1), "2": (1, 2), "3": (1, 3)})
        new = {"1": (1, 1), "2": (2, 1), "3": (3, 1)}
        self.comes(net, ("ring", "1", "2", "3", "m"), "a b", ["a 1 2", "b 3", "m 2 1 3"], new)
        net = told("a", ["a 2 3 3 1 1 2"], {"1": (1, 1), "2": (1, 2), "3": (1, 3)})
        self.comes(net, ("ring", "1", "2", "3", "m"), "a", ["a 1 2 3", "m 2 1 3"], new)

    def test_the_new_name_a_wires_own(self):
        for name in ("1", "3", "8signs00"):
            got = step_done(TRIANGLE, ("ring", "1", "2", "3", name))
            self.assertEqual(got[1][-1], (name, ["1", "3", "2"]))
            self.assertTrue(vet(got))

    def test_a_name_that_a_point_had(self):
        got = step_done(step_done(STAR, ("star", "m")), ("ring", "1", "2", "3", "m"))
        self.assertEqual(but_for(got, "m"), but_for(STAR, "m"))

    def test_refused_for_the_wires(self):
        # Three wires at one point, three in a row, a ring with something in it, a ring that isn't closed.
        self.refused(STAR, ("ring", "1", "2", "3", "n"))
        self.refused(CROSS, ("ring", "1", "2", "3", "n"))
        self.refused(RING, ("ring", "4", "5", "6", "n"))
        self.refused(INNER_RING, ("ring", "4", "5", "1", "n"))
        square = told("a b c d", ["a 1 2", "b 3 1", "c 4 3", "d 2 4"])
        self.refused(square, ("ring", "1", "2", "3", "n"))
        self.refused(BRIDGE, ("ring", "1", "2", "4", "n"))

    def test_refused_for_a_region_at_the_rim(self):
        # Of three corners, gone round over two wires and the rim, or over one wire twice and the rim.
        self.refused(told("a b c", ["a 1", "b 2 1", "c 2"]), ("ring", "1", "2", "1", "m"))
        self.refused(told("a b c", ["a 1", "b 2 1", "c 2"]), ("ring", "1", "2", "2", "m"))
        self.refused(told("a", ["a w", "m w"]), ("ring", "w", "w", "w", "n"))
        # Gone round over three wires and the rim.
        self.refused(told("a b", ["a 1", "m 1 2", "n 2 3", "b 3"]), ("ring", "1", "2", "3", "o"))
        self.refused(told("a b", ["a 1", "m 1 2 3", "n 3", "b 2"]), ("ring", "1", "2", "3", "o"))

    def test_refused_for_a_wire_twice(self):
        self.refused(TRIANGLE, ("ring", "1", "1", "2", "m"))
        self.refused(TRIANGLE, ("ring", "1", "2", "2", "m"))
        # One goes over t twice round the region in the loop.
        net = told("a", ["a l t l", "m t"])
        self.refused(net, ("ring", "l", "t", "t", "n"))
        self.refused(net, ("ring", "t", "l", "t", "n"))

    def test_refused_for_wires_that_the_net_has_not(self):
        self.refused(TRIANGLE, ("ring", "1", "2", "x", "m"))
        self.refused(ONE_POST, ("ring", "1", "2", "3", "m"))

    def test_refused_for_the_name(self):
        for name in ("a", "b", "c", "", "A", "n-1", "two words", "ninesigns", "n\n"):
            self.refused(TRIANGLE, ("ring", "1", "2", "3", name))
        for name in ("x", "a"):
            self.refused(INNER_RING, ("ring", "4", "5", "6", name))


class StepsTest(StepTest):
    def test_no_such_step(self):
        for step in ((), ("turn", "1"), ("", "1"), ("loop",), ("star", "m", "m"), ("ring", "1", "2", "3"), ("twins", "1")):
            self.refused(STAR, step)

    def nets(self):
        dice = random.Random(41)
        nets = SAMPLES + [BRIDGE, CROSS, TRIANGLE, INNER_RING, CHAIN]
        return nets + grown_nets(dice, 60) + drawn_nets(dice, 60, 15)

    # Rings are tried of all wires, three by three.
    def all_done(self, net):
        wires = [wire for wire, worth in net[2]]
        points = [row[0] for row in net[1]]
        steps = [(kind, wire) for kind in ("loop", "dead") for wire in wires]
        steps += [(kind, point) for kind in ("chain", "star") for point in points]
        steps += [("twins",) + pair for pair in itertools.combinations(wires, 2)]
        steps += [("ring",) + three + ("newpoint",) for three in itertools.combinations(wires, 3)]
        done = {}
        for step in steps:
            try:
                done[step] = step_done(net, step)
            except NoStep:
                pass
        return done

    def test_each_step_keeps_posts_and_table(self):
        found = {}
        for net in self.nets():
            kept = copy.deepcopy(net)
            table = answer_table(net)
            for step, got in self.all_done(net).items():
                self.assertTrue(vet(got))
                self.assertEqual(got[0], net[0])
                self.assertEqual(answer_table(got), table)
                found[step[0]] = found.get(step[0], 0) + 1
            self.assertEqual(net, kept)
        self.assertEqual(sorted(found), ["chain", "dead", "loop", "ring", "star", "twins"])
        self.assertGreater(min(found.values()), 20)

    def test_all_steps_and_no_other(self):
        for net in self.nets():
            right = sorted(step for step in self.all_done(net) if step[0] != "ring")
            self.assertEqual(steps_for(net), right)

    def test_stars_and_rings_undo_one_another(self):
        for net in self.nets():
            for step, got in self.all_done(net).items():
                if step[0] == "star":
                    back = step_done(got, ("ring",) + tuple(dict(net[1])[step[1]]) + (step[1],))
                    self.assertEqual(but_for(back, step[1]), but_for(net, step[1]))
                    self.assertEqual(back[1][-1][0], step[1])
                if step[0] == "ring":
                    back = step_done(got, ("star", "newpoint"))
                    self.assertEqual(self.begun_alike(back), self.begun_alike(net))

    # Behind a ring and a star the lists of points within stand as they stood, but may begin elsewhere.
    def begun_alike(self, net):
        rows = []
        for point, wires in net[1]:
            starts = range(len(wires)) if point not in net[0] else [0]
            rows.append((point, min([wires[k:] + wires[:k] for k in starts], default=[])))
        return (net[0], rows, net[2])

    def test_stars_and_rings_keep_the_lines(self):
        for net in self.nets():
            places = [line[:2] for line in lines_of(net)]
            for step, got in self.all_done(net).items():
                if step[0] in ("star", "ring"):
                    self.assertEqual([line[:2] for line in lines_of(got)], places)
                    self.assertEqual(crossed_by(got), crossed_by(net))

    def test_steps_by_hand(self):
        for net in (ONE_POST, SIX_POSTS, EDGE, TRIANGLE, CROSS):
            self.assertEqual(steps_for(net), [])
        self.assertEqual(steps_for(STAR), [("star", "m")])
        self.assertEqual(steps_for(CHAIN), [("chain", "m")])
        self.assertEqual(steps_for(TWINS), [("twins", "1", "2")])
        self.assertEqual(steps_for(LOOP_WITHIN), [("loop", "l")])
        self.assertEqual(steps_for(DEAD_END), [("dead", "1")])
        self.assertEqual(steps_for(BRIDGE), [("star", "m"), ("star", "n")])
        self.assertEqual(steps_for(RING), [("dead", "7"), ("loop", "8"), ("star", "y"), ("star", "z")])
        net = told("a b", ["a 9 l l 10 d", "b 2 10 9", "m 2 z", "n 3 4 z", "o d", "p 4 3"])
        self.assertEqual(steps_for(net), [
            ("chain", "m"), ("chain", "p"), ("dead", "d"), ("loop", "l"), ("star", "n"), ("twins", "10", "9"),
            ("twins", "3", "4")])

    def test_three_wires_between_two_points(self):
        net = told("a b", ["a 1 2 3", "b 3 2 1"])
        self.assertEqual(steps_for(net), [("twins", "1", "2"), ("twins", "1", "3"), ("twins", "2", "3")])

    def test_worths_with_more_figures(self):
        dice = random.Random(42)
        net = grown(dice, 3, 4, 9)
        large = (net[0], net[1], [(wire, (10 ** 90 + 7 * number, 10 ** 70 + 1)) for number, (wire, worth) in enumerate(net[2])])
        for step in steps_for(large):
            self.assertEqual(answer_table(step_done(large, step)), answer_table(large))

    def test_all_is_new(self):
        for net in (RING, INNER_RING, BRIDGE, LOOP_WITHIN, DEAD_END, CHAIN, TWINS, TRIANGLE):
            kept = copy.deepcopy(net)
            for step in list(self.all_done(net)):
                got = step_done(net, step)
                right = copy.deepcopy(got)
                spoil(got)
                self.assertEqual(net, kept)
                self.assertEqual(step_done(net, step), right)
            steps = steps_for(net)
            right = list(steps)
            steps.clear()
            self.assertEqual(steps_for(net), right)

    def test_what_is_told_stays_when_the_net_is_changed(self):
        net = copy.deepcopy(INNER_RING)
        got = step_done(net, ("star", "x"))
        net[0].clear()
        for point, wires in net[1]:
            wires.clear()
        net[2].clear()
        self.assertEqual(got, step_done(INNER_RING, ("star", "x")))


if __name__ == "__main__":
    unittest.main()
