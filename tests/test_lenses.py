import copy
import random
import unittest

from plates import BRIDGE, CHAIN, CROSS, DEAD_END, EDGE, LOOP_WITHIN, ONE_POST, POST_LOOP, RING, SAMPLES, SIX_POSTS
from plates import STAR, TRIANGLE, TWINS, drawn, fewest_wires, grown, grown_nets, told
from rimread.lenses import is_lean, lens_of
from rimread.lines import lines_of
from rimread.nets import vet

LEAN = [
    ONE_POST, SIX_POSTS, EDGE, STAR, TRIANGLE, CROSS,
    told("a b c d", ["a 1 2", "b 3 1", "c 4 3", "d 2 4"]),
    told("a b c d", ["a 1 5 2", "b 3 1", "c 4 5 3", "d 2 4"]),
    told("a b c d", ["a 1 2 3", "b 1", "c 2", "d 3"]),
    told("a b c d", ["a 5 1", "b 2 5", "c 3", "d 4", "m 1 2 3 4"]),
    told("a b c d", ["a 1", "b 6 2", "c 3 6", "d 4", "m 1 2 7", "n 7 3 4"]),
    told("a b c d", ["a 5 1", "b 6 2 5", "c 3 6", "d 4", "m 1 2 3 4"]),
    told("a b c d e", ["a 1", "b 2", "c 3", "d 4", "e 5", "m 1 2 3 4 5"]),
]
FAT = [
    POST_LOOP, LOOP_WITHIN, DEAD_END, CHAIN, TWINS, BRIDGE, RING,
    told("a", ["a 1 2", "m 2 1"]),
    told("a b", ["a l l w", "b w"]),
    told("a b c d", ["a 5 1", "b 2 5", "c 6 3", "d 4 6", "m 1 2 7", "n 7 3 4"]),
    told("a b c d", ["a 5 1", "b 2 5", "c 3", "d 4", "m 1 2 7", "n 7 3 4"]),
    told("a b c d", ["a 5 1", "b 2 5", "c 6 3", "d 4 6", "m 1 2 3 4"]),
    told("a b c", ["a 1 4", "b 2", "c 4 3", "m 1 2 3"]),
    told("a b c", ["a 1 2", "b 3 1", "c 4", "m 2 3 4"]),
]


class LensesTest(unittest.TestCase):
    # All that is asked of a lens of a net.
    def held(self, net, lens):
        lines = lines_of(net)
        self.assertIsInstance(lens, tuple)
        if len(lens) == 2:
            self.assertEqual(lines[lens[0]][2].count(lens[1]), 2)
        else:
            one, other, first, second = lens
            self.assertLess(one, other)
            self.assertLess(first, second)
            for wire in (first, second):
                self.assertIn(wire, lines[one][2])
                self.assertIn(wire, lines[other][2])

    def test_lean_nets(self):
        for net in LEAN:
            vet(net)
            self.assertIsNone(lens_of(net))
            self.assertIs(is_lean(net), True)

    def test_nets_that_are_not_lean(self):
        for net in FAT:
            vet(net)
            self.held(net, lens_of(net))
            self.assertIs(is_lean(net), False)

    def test_a_line_that_meets_itself(self):
        self.assertEqual(lens_of(POST_LOOP), (0, "w"))
        self.assertEqual(lens_of(told("a b", ["a", "b w", "m w"])), (1, "w"))
        self.assertEqual(lens_of(DEAD_END), (1, "1"))
        self.assertIn(lens_of(LOOP_WITHIN), [(0, "l"), (0, "t")])

    def test_two_lines_that_meet_twice(self):
        self.assertEqual(lens_of(TWINS), (0, 1, "1", "2"))
        self.assertEqual(lens_of(CHAIN), (0, 1, "1", "2"))
        self.assertEqual(lens_of(told("a b", ["a z", "m z 10", "b 10"])), (0, 1, "10", "z"))
        # With a closed line.
        self.assertEqual(lens_of(told("a", ["a 1 2", "m 2 1"])), (0, 1, "1", "2"))
        self.assertIn(lens_of(BRIDGE), [(0, 2, "2", "4"), (1, 2, "1", "5")])

    def test_a_star_and_an_edge_beside_it(self):
        self.assertEqual(lens_of(told("a b c", ["a 1 4", "b 2", "c 4 3", "m 1 2 3"])), (0, 2, "2", "4"))

    def test_none_just_where_the_net_is_lean(self):
        dice = random.Random(36)
        nets = SAMPLES + LEAN + FAT + grown_nets(dice, 60)
        nets += [grown(dice, dice.randint(3, 6), dice.randint(0, 2), dice.randint(2, 8)) for turn in range(200)]
        nets += [drawn(dice, dice.randint(3, 6), dice.randint(0, 4), dice.randint(2, 12))[0] for turn in range(200)]
        found = {True: 0, False: 0}
        for net in nets:
            lines = lines_of(net)
            met = []
            for wire, worth in net[2]:
                met.append([number for number, line in enumerate(lines) for crossed in line[2] if crossed == wire])
            lean = all(one != other for one, other in met) and all(met.count(pair) == 1 for pair in met)
            self.assertIs(is_lean(net), lean)
            if lean:
                self.assertIsNone(lens_of(net))
            else:
                self.held(net, lens_of(net))
            found[lean] += 1
        self.assertGreater(min(found.values()), 50)

    def test_lean_just_where_no_wire_is_too_many(self):
        dice = random.Random(37)
        nets = LEAN + FAT
        nets += [grown(dice, dice.randint(3, 6), dice.randint(0, 2), dice.randint(2, 8)) for turn in range(60)]
        nets += [drawn(dice, dice.randint(3, 6), dice.randint(0, 4), dice.randint(2, 12))[0] for turn in range(60)]
        for net in nets:
            self.assertEqual(is_lean(net), fewest_wires(net) == len(net[2]))

    def test_nothing_is_changed(self):
        for net in LEAN + FAT:
            kept = copy.deepcopy(net)
            lens = lens_of(net)
            is_lean(net)
            self.assertEqual(net, kept)
            self.assertEqual(lens_of(net), lens)


if __name__ == "__main__":
    unittest.main()
