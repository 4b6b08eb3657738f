import copy
import random
import unittest

from plates import CROSS, EDGE, ONE_POST, SIX_POSTS, STAR, TRIANGLE, all_ones, full_nets, lean_nets, some_worth, told
from plates import turned_about
from rimread.answers import answer_table
from rimread.fractions import fraction
from rimread.leaning import made_lean
from rimread.peeling import peelable, peeled
from rimread.reading import table_peeled, worth_read, worths_read

# An edge across, so that ways on both sides of it are looked at.
ACROSS = told(
    "a b c d", ["a 1 5 2", "b 3 1", "c 4 5 3", "d 2 4"],
    {"1": (1, 2), "2": (2, 3), "3": (3, 5), "4": (5, 7), "5": (7, 11)},
)
# An edge, a star, and a post without wires.
PARTS = told(
    "a b c d e f", ["a 4", "b 1", "c 2", "d 3", "e", "f 4", "m 1 2 3"],
    {"1": (1, 2), "2": (2, 3), "3": (3, 5), "4": (5, 7)},
)


class ReadingTest(unittest.TestCase):
    def test_by_hand(self):
        edge = [[(2, 3), (-2, 3)], [(-2, 3), (2, 3)]]
        bare = [[(0, 1), (0, 1)], [(0, 1), (0, 1)]]
        shape = all_ones(EDGE)
        self.assertEqual(worth_read(shape, edge, "w"), (2, 3))
        self.assertEqual(table_peeled(shape, edge, "w"), bare)
        self.assertEqual(worths_read(shape, edge), [("w", (2, 3))])
        # Of the star with the worths 1, 2, 3.
        star = [[(5, 6), (-1, 3), (-1, 2)], [(-1, 3), (4, 3), (-1, 1)], [(-1, 2), (-1, 1), (3, 2)]]
        shape = all_ones(STAR)
        self.assertEqual([worth_read(shape, star, wire) for wire in ("1", "2", "3")], [(1, 1), (2, 1), (3, 1)])
        without = [[(5, 1), (-2, 1), (-3, 1)], [(-2, 1), (2, 1), (0, 1)], [(-3, 1), (0, 1), (3, 1)]]
        self.assertEqual(table_peeled(shape, star, "1"), without)
        self.assertEqual(worths_read(shape, star), [("1", (1, 1)), ("2", (2, 1)), ("3", (3, 1))])

    def held(self, net, dice):
        table = answer_table(net)
        shapes = [net, all_ones(net), (net[0], net[1], [(wire, some_worth(dice)) for wire, worth in net[2]])]
        for shape in shapes:
            kept = copy.deepcopy((shape, table))
            for kind, wire in peelable(net):
                self.assertEqual(worth_read(shape, table, wire), dict(net[2])[wire])
                self.assertEqual(table_peeled(shape, table, wire), answer_table(peeled(net, wire)))
            self.assertEqual(worths_read(shape, table), net[2])
            self.assertEqual((shape, table), kept)

    def test_samples(self):
        for net in (EDGE, STAR, TRIANGLE, CROSS, ACROSS, PARTS):
            self.held(net, random.Random(91))

    def test_no_wires(self):
        for net in (ONE_POST, SIX_POSTS):
            self.assertEqual(worths_read(net, answer_table(net)), [])

    def test_many_nets(self):
        dice = random.Random(92)
        for net in lean_nets(dice, 60):
            self.held(net, dice)

    def test_fifteen_wires(self):
        dice = random.Random(93)
        for net in full_nets(dice, 12):
            self.held(net, dice)

    # Peeled in any order, each table is that of the net without the wire.
    def test_peeled_on(self):
        dice = random.Random(94)
        for net in full_nets(dice, 6) + lean_nets(dice, 20):
            shape = all_ones(net)
            table = answer_table(net)
            while net[2]:
                wire = dice.choice(peelable(net))[1]
                table = table_peeled(shape, table, wire)
                net = peeled(net, wire)
                shape = peeled(shape, wire)
                self.assertEqual(table, answer_table(net))

    # The worths of a net that was turned are those of its own table, with long tops and bottoms.
    def test_worths_of_many_figures(self):
        dice = random.Random(95)
        for net in full_nets(dice, 4):
            worths = [(wire, fraction(dice.randint(1, 10 ** 9), dice.randint(1, 10 ** 9))) for wire, worth in net[2]]
            self.held((net[0], net[1], worths), dice)
            self.held(turned_about(dice, net, 20), dice)

    # Two nets with one table, each of its own shape.
    def test_nets_made_lean(self):
        thick = told("a b c d", ["a 5 1", "b 2 5", "c 6 3", "d 4 6", "m 1 2 7", "n 7 3 4"], {"5": (1, 2), "7": (3, 1)})
        lean = made_lean(thick)[1]
        self.assertEqual(worths_read(all_ones(lean), answer_table(thick)), lean[2])

    def test_sorted_by_wire(self):
        net = told("a b c", ["a 9", "c 10 9", "b 10"], {"9": (1, 9), "10": (1, 10)})
        self.assertEqual(worths_read(all_ones(net), answer_table(net)), [("10", (1, 10)), ("9", (1, 9))])

    def test_what_is_told_is_new(self):
        for net in (STAR, ACROSS, PARTS):
            table = answer_table(net)
            kept = copy.deepcopy((net, table))
            for kind, wire in peelable(net):
                left = table_peeled(net, table, wire)
                right = copy.deepcopy(left)
                for row in left:
                    row.clear()
                left.clear()
                self.assertEqual(table_peeled(net, table, wire), right)
            worths_read(net, table).clear()
            self.assertEqual(worths_read(net, table), net[2])
            self.assertEqual((net, table), kept)


if __name__ == "__main__":
    unittest.main()
