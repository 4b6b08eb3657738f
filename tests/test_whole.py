"""The whole there and back: a thick net, its table, judged; made lean, led to the net told; the worths read back."""

import copy
import random
import unittest

from plates import all_ones, full_nets, lean_nets, thickened, worths_by_lines
from rimread.answers import answer_table
from rimread.desk import Desk
from rimread.judging import judged
from rimread.leaning import made_lean
from rimread.lenses import is_lean
from rimread.lines import lines_of
from rimread.nets import points_within, vet
from rimread.notes import net_read, net_shown
from rimread.peeling import peelable, peeled
from rimread.reading import table_peeled, worths_read
from rimread.roads import road_between
from rimread.runs import facing_runs, minor_of
from rimread.shapes import same_shape
from rimread.steps import step_done
from rimread.takeout import table_by_taking
from rimread.ways import ways_or_cut
from rimread.woods import table_by_woods


class WholeTest(unittest.TestCase):
    def there_and_back(self, net, lean_count):
        kept = copy.deepcopy(net)
        self.assertTrue(vet(net))
        table = answer_table(net)
        self.assertEqual(table_by_taking(net, sorted(points_within(net))), table)
        if len(net[2]) <= 10:
            self.assertEqual(table_by_woods(net), table)
        for P, Q in facing_runs(len(net[0])):
            minor = minor_of(table, P, Q)
            self.assertGreaterEqual(minor[0], 0)
            self.assertEqual(ways_or_cut(net, P, Q)[0], "cut" if minor == (0, 1) else "ways")
        word, other = judged(table)
        self.assertEqual(word, "net")
        self.assertTrue(is_lean(other))
        self.assertEqual(len(other[2]), lean_count)
        steps, lean = made_lean(net)
        self.assertEqual(len(lean[2]), lean_count)
        for one, goal in ((lean, other), (other, lean)):
            left = one
            for step in road_between(one, goal):
                left = step_done(left, step)
            self.assertTrue(same_shape(left, goal))
            self.assertEqual(worths_by_lines(left), worths_by_lines(goal))
        for one in (lean, other):
            self.assertEqual(worths_read(all_ones(one), table), one[2])
            for kind, wire in peelable(one):
                self.assertEqual(table_peeled(all_ones(one), table, wire), answer_table(peeled(one, wire)))
        self.assertEqual(net_read(net_shown(net)), net)
        self.assertEqual(net, kept)

    def test_thick_nets(self):
        dice = random.Random(161)
        for lean in lean_nets(dice, 80):
            net = thickened(dice, lean, dice.randint(len(lean[2]), 15))
            self.assertEqual(answer_table(net), answer_table(lean))
            self.there_and_back(net, len(lean[2]))

    def test_thick_nets_of_few_wires_more(self):
        dice = random.Random(162)
        for lean in full_nets(dice, 6):
            self.there_and_back(thickened(dice, lean, dice.randint(15, 18)), 15)

    # The same, told to a desk.
    def test_at_the_desk(self):
        dice = random.Random(163)
        for lean in lean_nets(dice, 30):
            net = thickened(dice, lean, 15)
            desk = Desk()
            self.assertEqual(desk.say("net\n" + net_shown(net)), "ok")
            table = desk.say("table")
            self.assertEqual(desk.say("judge " + table.replace("\n", " ")), "net")
            self.assertEqual(desk.say("lean"), "yes" if len(net[2]) == len(lean[2]) else "no")
            self.assertEqual(desk.say("thin") == "0", len(net[2]) == len(lean[2]))
            self.assertEqual(desk.say("lean"), "yes")
            self.assertEqual(desk.say("table"), table)
            self.assertEqual(desk.say("lines"), " ".join("%d-%d" % line[:2] for line in lines_of(lean)))
            wires = [row[5:] for row in desk.say("show").split("\n") if row.startswith("wire ")]
            self.assertEqual(desk.say("read").split("\n"), wires if wires else [""])


if __name__ == "__main__":
    unittest.main()
