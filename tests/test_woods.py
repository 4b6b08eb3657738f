import copy
import itertools
import random
import unittest
from fractions import Fraction

from plates import BRIDGE, CHAIN, CROSS, DEAD_END, EDGE, LOOP_WITHIN, ONE_POST, POST_LOOP, RING, SAMPLES, SIX_POSTS
from plates import STAR, TRIANGLE, TWINS, grown, told
from rimread.answers import answer_table
from rimread.errors import TooMany
from rimread.woods import joined_woods, table_by_woods, weight_of, woods_of

BLANK = (0, 1)
# Ten twins, and one more.
TEN = told("a b", ["a 0 1 2 3 4 5 6 7 8 9", "b 9 8 7 6 5 4 3 2 1 0"], {"3": (1, 2)})
ELEVEN = told("a b", ["a 0 1 2 3 4 5 6 7 8 9 x", "b x 9 8 7 6 5 4 3 2 1 0"])


# All that a point hangs together with.
def reached(ends, wires, start):
    found = {start}
    for turn in wires:
        for wire in wires:
            if set(ends[wire]) & found:
                found |= set(ends[wire])
    return found


def is_ringless(ends, wires):
    for wire in wires:
        others = [other for other in wires if other != wire]
        if ends[wire][1] in reached(ends, others, ends[wire][0]):
            return False
    return True


# By the words of the document, set by set; the two posts that hang together are given by their numbers.
def woods_by_words(net, pair):
    ends = {}
    for point, wires in net[1]:
        for wire in wires:
            ends.setdefault(wire, []).append(point)
    joined = {net[0][number] for number in pair}
    woods = []
    for count in range(len(ends) + 1):
        for wires in itertools.combinations(sorted(ends), count):
            hanging = [reached(ends, wires, row[0]) & set(net[0]) for row in net[1]]
            right = all(len(posts) == 1 and not posts & joined or posts == joined for posts in hanging)
            if not pair:
                right = all(len(posts) == 1 for posts in hanging)
            if right and is_ringless(ends, wires):
                woods.append(list(wires))
    return sorted(woods)


class WoodsTest(unittest.TestCase):
    def test_without_wires(self):
        for net in (ONE_POST, SIX_POSTS):
            self.assertEqual(woods_of(net), [[]])

    def test_by_hand(self):
        self.assertEqual(woods_of(EDGE), [[]])
        self.assertEqual(woods_of(STAR), [["1"], ["2"], ["3"]])
        self.assertEqual(woods_of(TRIANGLE), [[]])
        self.assertEqual(woods_of(BRIDGE), [
            ["1", "2"], ["1", "3"], ["1", "5"], ["2", "3"], ["2", "4"], ["3", "4"], ["3", "5"], ["4", "5"]])
        self.assertEqual(joined_woods(EDGE, 0, 1), [["w"]])
        self.assertEqual(joined_woods(STAR, 0, 1), [["1", "2"]])
        self.assertEqual(joined_woods(STAR, 2, 0), [["1", "3"]])
        self.assertEqual(joined_woods(TRIANGLE, 1, 2), [["3"]])
        self.assertEqual(joined_woods(CHAIN, 0, 1), [["1", "2"]])

    def test_names_sorted_as_texts(self):
        net = told("a", ["a 10 9", "m 9 10 b 2", "n 2 b"])
        self.assertEqual(woods_of(net), [["10", "2"], ["10", "b"], ["2", "9"], ["9", "b"]])

    def test_loops_never(self):
        self.assertEqual(woods_of(POST_LOOP), [[]])
        self.assertEqual(woods_of(LOOP_WITHIN), [["t"]])
        net = told("a b", ["a l l w", "b w"])
        self.assertEqual(woods_of(net), [[]])
        self.assertEqual(joined_woods(net, 0, 1), [["w"]])

    def test_two_wires_between_the_same_points_never_both(self):
        self.assertEqual(woods_of(told("a", ["a 1 2", "m 2 1"])), [["1"], ["2"]])
        self.assertEqual(joined_woods(TWINS, 0, 1), [["1"], ["2"]])

    def test_posts_that_cannot_be_joined(self):
        net = told("a b c d", ["a 1", "m 1 2", "b 2", "c 3", "d 3"])
        self.assertEqual(joined_woods(net, 0, 1), [["1", "2"]])
        self.assertEqual(joined_woods(net, 0, 2), [])
        self.assertEqual(joined_woods(net, 2, 3), [["1", "3"], ["2", "3"]])
        self.assertEqual(joined_woods(SIX_POSTS, 5, 0), [])
        # By way of a third post alone.
        self.assertEqual(joined_woods(told("a b c", ["a 1", "b 2 1", "c 2"]), 0, 2), [])

    def test_by_the_words_of_the_document(self):
        dice = random.Random(25)
        nets = SAMPLES + [CROSS, BRIDGE] + [grown(dice, dice.randint(1, 4), dice.randint(0, 4), 7) for turn in range(25)]
        for net in nets:
            self.assertEqual(woods_of(net), woods_by_words(net, ()))
            for i, j in itertools.permutations(range(len(net[0])), 2):
                self.assertEqual(joined_woods(net, i, j), woods_by_words(net, (i, j)))

    def test_weights(self):
        self.assertEqual(weight_of(ONE_POST, []), (1, 1))
        self.assertEqual(weight_of(RING, []), (1, 1))
        self.assertEqual(weight_of(RING, ["3"]), (3, 5))
        self.assertEqual(weight_of(RING, ["1", "2", "3"]), (1, 5))
        self.assertEqual(weight_of(RING, ["8", "4"]), (85, 133))

    def test_too_many_wires(self):
        self.assertEqual(woods_of(TEN), [[]])
        self.assertEqual(joined_woods(TEN, 1, 0), [[str(number)] for number in range(10)])
        self.assertEqual(table_by_woods(TEN), [[(19, 2), (-19, 2)], [(-19, 2), (19, 2)]])
        for net in (ELEVEN, grown(random.Random(26), 3, 4, 15)):
            with self.assertRaises(TooMany):
                woods_of(net)
            with self.assertRaises(TooMany):
                joined_woods(net, 0, 1)
            with self.assertRaises(TooMany):
                table_by_woods(net)
        self.assertEqual(weight_of(ELEVEN, ["0", "x"]), (1, 1))


class TableByWoodsTest(unittest.TestCase):
    def test_one_post(self):
        for net in (ONE_POST, POST_LOOP, LOOP_WITHIN):
            self.assertEqual(table_by_woods(net), [[BLANK]])

    def test_posts_not_joined(self):
        self.assertEqual(table_by_woods(SIX_POSTS), [[BLANK] * 6 for post in range(6)])
        net = told("a b c d", ["a 1", "m 1 2", "b 2", "c 3", "d 3"], {"3": (1, 4)})
        self.assertEqual(table_by_woods(net)[1], [(-1, 2), (1, 2), BLANK, BLANK])

    def test_entries_by_weights(self):
        table = table_by_woods(BRIDGE)
        whole = sum([Fraction(*weight_of(BRIDGE, wires)) for wires in woods_of(BRIDGE)])
        joined = sum([Fraction(*weight_of(BRIDGE, wires)) for wires in joined_woods(BRIDGE, 0, 1)])
        self.assertEqual(Fraction(*table[0][1]), -joined / whole)

    def test_the_same_as_the_answer_table(self):
        dice = random.Random(27)
        nets = SAMPLES + [CROSS, BRIDGE, TRIANGLE, CHAIN, DEAD_END]
        for turn in range(60):
            within = dice.randint(0, 8)
            nets.append(grown(dice, dice.randint(1, 6), within, dice.randint(within, 10)))
        for net in nets:
            self.assertEqual(table_by_woods(net), answer_table(net))

    # Slow ways take minutes here; there is no clock to look at.
    def test_many_nets_of_ten_wires(self):
        dice = random.Random(28)
        for turn in range(30):
            net = grown(dice, 6, dice.randint(0, 10), 10)
            self.assertEqual(table_by_woods(net), answer_table(net))

    def test_nothing_is_changed_and_all_is_new(self):
        for net in (EDGE, STAR, BRIDGE, CROSS):
            kept = copy.deepcopy(net)
            for ask in (woods_of, lambda asked: joined_woods(asked, 0, 1), table_by_woods):
                first = ask(net)
                right = copy.deepcopy(first)
                for row in first:
                    row.clear()
                first.clear()
                self.assertEqual(net, kept)
                self.assertEqual(ask(net), right)
        wires = ["2", "1"]
        weight_of(STAR, wires)
        self.assertEqual(wires, ["2", "1"])

    def test_rows_are_lists_of_their_own(self):
        table = table_by_woods(SIX_POSTS)
        table[0][0] = (1, 1)
        self.assertEqual([row[0] for row in table], [(1, 1)] + [BLANK] * 5)


if __name__ == "__main__":
    unittest.main()
