import copy
import itertools
import math
import random
import unittest
from fractions import Fraction

from plates import DEAD_END, EDGE, LOOP_WITHIN, ONE_POST, POST_LOOP, RING, SAMPLES, SIXTY, SIX_POSTS, STAR, TWINS
from plates import grown, grown_nets, some_fraction, told
from rimread.answers import answer_table
from rimread.grids import multiplied
from rimread.heights import flows_of

BLANK = (0, 1)


def groups(net, wires):
    group = {row[0]: row[0] for row in net[1]}
    for wire in wires:
        one, other = [row[0] for row in net[1] for name in row[1] if name == wire]
        if group[one] == group[other]:
            return None
        gone = group[other]
        for point in group:
            if group[point] == gone:
                group[point] = group[one]
    return group


# The posts that hang together in each part: of a wood just one everywhere, of a wood of two these two in one part.
def weight_with(net, shared):
    worths = {wire: Fraction(*worth) for wire, worth in net[2]}
    total = Fraction(0)
    for count in range(len(worths) + 1):
        for wires in itertools.combinations(worths, count):
            group = groups(net, wires)
            if group is None:
                continue
            parts = [[post for post in net[0] if group[post] == name] for name in sorted(set(group.values()))]
            wanted = [part for part in parts if len(part) != 1]
            if wanted == ([shared] if shared else []):
                total += math.prod([worths[wire] for wire in wires])
    return total


def table_by_counting(net):
    whole = weight_with(net, [])
    table = [[Fraction(0)] * len(net[0]) for post in net[0]]
    for i, j in itertools.combinations(range(len(net[0])), 2):
        entry = weight_with(net, [net[0][i], net[0][j]]) / whole
        table[i][j] = -entry
        table[j][i] = -entry
        table[i][i] += entry
        table[j][j] += entry
    return [[(entry.numerator, entry.denominator) for entry in row] for row in table]


class AnswersTest(unittest.TestCase):
    def test_by_hand(self):
        self.assertEqual(answer_table(EDGE), [[(2, 3), (-2, 3)], [(-2, 3), (2, 3)]])
        self.assertEqual(answer_table(TWINS), [[(5, 6), (-5, 6)], [(-5, 6), (5, 6)]])
        self.assertEqual(answer_table(DEAD_END), [[(5, 7), (-5, 7)], [(-5, 7), (5, 7)]])
        self.assertEqual(answer_table(STAR), [
            [(5, 6), (-1, 3), (-1, 2)], [(-1, 3), (4, 3), (-1, 1)], [(-1, 2), (-1, 1), (3, 2)]])

    def test_one_post(self):
        for net in (ONE_POST, POST_LOOP, LOOP_WITHIN, told("a", ["a 1 2", "m 1 2"])):
            self.assertEqual(answer_table(net), [[BLANK]])

    def test_posts_not_joined(self):
        self.assertEqual(answer_table(SIX_POSTS), [[BLANK] * 6 for post in range(6)])
        net = told("a b c d", ["a 1", "m 1 2", "b 2", "c 3", "d 3"], {"3": (1, 4)})
        self.assertEqual(answer_table(net), [
            [(1, 2), (-1, 2), BLANK, BLANK],
            [(-1, 2), (1, 2), BLANK, BLANK],
            [BLANK, BLANK, (1, 4), (-1, 4)],
            [BLANK, BLANK, (-1, 4), (1, 4)],
        ])

    def test_the_order_of_posts(self):
        net = told("c a b", ["m 1 2 3", "b 2", "a 1", "c 3"], {"1": (1, 1), "2": (2, 1), "3": (3, 1)})
        self.assertEqual(answer_table(net), [
            [(3, 2), (-1, 2), (-1, 1)], [(-1, 2), (5, 6), (-1, 3)], [(-1, 1), (-1, 3), (4, 3)]])

    def test_columns_are_flows(self):
        for net in SAMPLES + grown_nets(random.Random(16), 40):
            table = answer_table(net)
            count = len(net[0])
            self.assertEqual([len(row) for row in table], [count] * count)
            for j in range(count):
                setting = [(1, 1) if i == j else BLANK for i in range(count)]
                self.assertEqual([row[j] for row in table], flows_of(net, setting))

    def test_even_with_rows_that_sum_to_nothing(self):
        for net in SAMPLES + grown_nets(random.Random(17), 60):
            table = answer_table(net)
            for i, row in enumerate(table):
                self.assertEqual(row, [other[i] for other in table])
                self.assertEqual(sum([Fraction(*entry) for entry in row]), 0)
                for j, entry in enumerate(row):
                    self.assertTrue(entry[0] >= 0 if i == j else entry[0] <= 0)

    def test_the_table_times_any_setting(self):
        dice = random.Random(18)
        for net in SAMPLES + grown_nets(dice, 40):
            for most in (9, 1000, SIXTY):
                setting = [some_fraction(dice, most) for post in net[0]]
                product = multiplied(answer_table(net), [[height] for height in setting])
                self.assertEqual(flows_of(net, setting), [row[0] for row in product])

    def test_sets_of_wires_counted_one_by_one_tell_the_same(self):
        dice = random.Random(19)
        nets = SAMPLES + [grown(dice, dice.randint(2, 4), dice.randint(1, 3), 7) for number in range(20)]
        for net in nets:
            self.assertEqual(answer_table(net), table_by_counting(net))

    # Slow ways take minutes or never end here; there is no clock to look at.
    def test_many_large_nets(self):
        dice = random.Random(20)
        for number in range(60):
            table = answer_table(grown(dice, 6, 10, 15))
            self.assertEqual(len(table), 6)

    def test_nothing_is_changed_and_all_is_new(self):
        for net in SAMPLES:
            kept = copy.deepcopy(net)
            table = answer_table(net)
            right = copy.deepcopy(table)
            for row in table:
                row.clear()
            table.clear()
            self.assertEqual(net, kept)
            self.assertEqual(answer_table(net), right)

    def test_rows_are_lists_of_their_own(self):
        table = answer_table(SIX_POSTS)
        table[0][0] = (1, 1)
        self.assertEqual([row[0] for row in table], [(1, 1)] + [BLANK] * 5)

    def test_what_is_told_stays_when_the_net_is_changed(self):
        net = copy.deepcopy(RING)
        table = answer_table(net)
        net[2].clear()
        net[0].reverse()
        self.assertEqual(table, answer_table(RING))


if __name__ == "__main__":
    unittest.main()
