import copy
import itertools
import random
import unittest

from plates import CROSS, EDGE, ONE_POST, SAMPLES, SIX_POSTS, STAR, all_lean_nets, drawn_nets, full_nets, grown_nets
from plates import lean_nets, minor_by_orders, runs_by_words, some_fraction, some_worth, spoil, told, wholes
from rimread.answers import answer_table
from rimread.fractions import fraction, minus, plus, times
from rimread.judging import judged
from rimread.lenses import is_lean
from rimread.nets import vet
from rimread.peeling import peelable

RUNS = {n: runs_by_words(n) for n in range(1, 7)}


# A table of wires between posts alone, (i, j, worth), whether they cross or not.
def table_of(size, *wires):
    table = [[0] * size for row in range(size)]
    for i, j, worth in wires:
        for near, far in ((i, j), (j, i)):
            table[near][near] += worth
            table[near][far] -= worth
    return wholes(table)


def by_words(table):
    size = range(len(table))
    for i in size:
        for j in size:
            if table[i][j] != table[j][i]:
                return ("uneven", i, j)
    for i in size:
        whole = (0, 1)
        for entry in table[i]:
            whole = plus(whole, entry)
        if whole != (0, 1):
            return ("sum", i)
    for P, Q in RUNS[len(table)]:
        if minor_by_orders(table, P, Q)[0] < 0:
            return ("minor", P, Q)
    return ("net",)


class JudgedTest(unittest.TestCase):
    # All that is asked of what is told; the net, if there is one.
    def held(self, table):
        kept = copy.deepcopy(table)
        verdict = judged(table)
        self.assertEqual(table, kept)
        self.assertIsInstance(verdict, tuple)
        if verdict[0] != "net":
            self.assertEqual(verdict, by_words(table))
            return None
        self.assertEqual(by_words(table), ("net",))
        self.assertEqual(len(verdict), 2)
        net = verdict[1]
        self.assertTrue(vet(net))
        self.assertTrue(is_lean(net))
        self.assertEqual(net[0], ["p%d" % number for number in range(len(table))])
        self.assertEqual(answer_table(net), table)
        return net

    def test_uneven(self):
        self.assertEqual(judged(wholes([[1, -1], [-2, 2]])), ("uneven", 0, 1))
        self.assertEqual(judged(wholes([[2, -1, -1], [-1, 2, -1], [-1, -2, 3]])), ("uneven", 1, 2))
        # The first i, then j, of several.
        self.assertEqual(judged(wholes([[2, -1, -1], [-1, 2, -1], [-2, -2, 4]])), ("uneven", 0, 2))
        self.assertEqual(judged(wholes([[2, -1, -1], [-3, 4, -1], [-2, -2, 4]])), ("uneven", 0, 1))

    def test_uneven_first(self):
        self.assertEqual(judged(wholes([[9, 0, 0], [0, 9, 1], [0, 2, 9]])), ("uneven", 1, 2))
        self.assertEqual(judged(wholes([[-5, 5], [6, -6]])), ("uneven", 0, 1))

    def test_sum(self):
        self.assertEqual(judged([[(1, 7)]]), ("sum", 0))
        self.assertEqual(judged([[(-1, 7)]]), ("sum", 0))
        self.assertEqual(judged(wholes([[1, -1], [-1, 2]])), ("sum", 1))
        # The first of several; ahead of minors.
        self.assertEqual(judged(wholes([[2, -1, -1], [-1, 3, -1], [-1, -1, 1]])), ("sum", 1))
        self.assertEqual(judged(wholes([[-1, 1, 0], [1, -1, 0], [0, 0, 4]])), ("sum", 2))

    def test_minors_of_one(self):
        self.assertEqual(judged(wholes([[-1, 1], [1, -1]])), ("minor", [0], [1]))
        self.assertEqual(judged(table_of(3, (0, 1, 1), (0, 2, 1), (1, 2, -1))), ("minor", [1], [2]))
        self.assertEqual(judged(table_of(4, (2, 3, -1), (1, 3, -5), (0, 3, 9))), ("minor", [1], [3]))
        self.assertEqual(judged(table_of(6, (4, 5, -1))), ("minor", [4], [5]))

    def test_minors_of_two(self):
        # Two wires that cross.
        self.assertEqual(judged(table_of(4, (0, 2, 1), (1, 3, 1))), ("minor", [0, 1], [3, 2]))
        self.assertEqual(judged(table_of(4, (0, 2, 3), (1, 3, 1), (0, 3, 1), (1, 2, 3))), ("minor", [3, 0], [2, 1]))
        self.assertEqual(judged(table_of(5, (0, 2, 1), (1, 4, 1))), ("minor", [0, 1], [4, 2]))
        self.assertEqual(judged(table_of(6, (2, 5, 1), (3, 0, 1))), ("minor", [0, 2], [5, 3]))
        # One of one posts each comes first, wherever it stands.
        self.assertEqual(judged(table_of(4, (0, 2, 1), (1, 3, 1), (2, 3, -1))), ("minor", [2], [3]))

    # An edge is made somewhat less than nothing: the minors that it alone keeps above 0 fall below it.
    def test_minors_of_all_lengths(self):
        dice = random.Random(101)
        lengths = []
        for net in full_nets(dice, 25) + lean_nets(dice, 60):
            table = answer_table(net)
            for kind, wire in peelable(net):
                if kind == "edge":
                    i, j = [net[0].index(point) for point, wires in net[1] if wire in wires]
                    more = times(dict(net[2])[wire], (1000001, 1000000))
                    for near, far in ((i, j), (j, i)):
                        table[near][near] = minus(table[near][near], more)
                        table[near][far] = plus(table[near][far], more)
                    self.assertIsNone(self.held(table))
                    lengths.append(len(judged(table)[1]))
                    table = answer_table(net)
        self.assertEqual(set(lengths), {1, 2, 3})

    def test_by_the_words_of_the_document(self):
        dice = random.Random(102)
        words = []
        for net in lean_nets(dice, 150):
            table = answer_table(net)
            size = len(table)
            for change in range(dice.randint(0, 2)):
                i, j = dice.randrange(size), dice.randrange(size)
                entry = some_fraction(dice, 50)
                table[i][j] = entry
                if dice.random() < 0.8:
                    table[j][i] = entry
            if dice.random() < 0.8:
                for i in range(size):
                    table[i][i] = (0, 1)
                    for entry in table[i][:i] + table[i][i + 1:]:
                        table[i][i] = minus(table[i][i], entry)
            self.held(table)
            words.append(judged(table)[0])
        self.assertEqual(set(words), {"uneven", "sum", "minor", "net"})

    # Where entries are small, minors are often just 0.
    def test_small_whole_entries(self):
        pairs = list(itertools.combinations(range(4), 2))
        found = {True: 0, False: 0}
        for worths in itertools.product(range(3), repeat=6):
            net = self.held(table_of(4, *[(i, j, worth) for (i, j), worth in zip(pairs, worths)]))
            found[net is None] += 1
        dice = random.Random(109)
        for turn in range(200):
            pairs = list(itertools.combinations(range(dice.randint(5, 6)), 2))
            wires = [(i, j, dice.randint(0, 7 // min(j - i, 6 + i - j) ** 2)) for i, j in pairs]
            found[self.held(table_of(pairs[-1][1] + 1, *wires)) is None] += 1
        self.assertGreater(min(found.values()), 200)

    def test_of_one_row(self):
        self.assertEqual(judged([[(0, 1)]]), ("net", (["p0"], [("p0", [])], [])))

    def test_of_noughts_alone(self):
        for size in range(1, 7):
            net = self.held(table_of(size))
            self.assertEqual(net[2], [])
            self.assertEqual(sorted(net[1]), [("p%d" % number, []) for number in range(size)])

    def test_by_hand(self):
        net = self.held(answer_table(EDGE))
        self.assertEqual([worth for wire, worth in net[2]], [(2, 3)])
        self.assertEqual(len(self.held(answer_table(STAR))[2]), 3)
        self.assertEqual(len(self.held(answer_table(CROSS))[2]), 4)

    def test_tables_in_parts(self):
        parts = [
            told("a b c d e f", ["a 4", "b 1", "c 2", "d 3", "e", "f 4", "m 1 2 3"], {"1": (1, 2), "4": (5, 7)}),
            told("a b c d", ["a 1", "b 2", "c 2", "d 1"]),
            told("a b c d e f", ["a 1", "b 2", "c", "d 2", "e 1", "f"], {"1": (3, 1)}),
            told("a b c d e f", ["a 1", "b", "c 2", "d", "e 3", "f", "m 1 2 3"], {"1": (3, 1)}),
        ]
        for net in parts:
            self.assertEqual(len(self.held(answer_table(net))[2]), len(net[2]))

    def test_a_wire_past_others(self):
        # Posts that hang on one wire each, to a post that doesn't stand beside them.
        net = told("a b c d e f", ["a 1 2 3 4 5", "b 1", "c 2", "d 3", "e 4", "f 5"], {"1": (3, 1), "3": (1, 9)})
        self.assertEqual(len(self.held(answer_table(net))[2]), 5)
        net = told("a b c d e", ["a 1 2", "b 4 1", "c 5 2 4", "d 6 5", "e 6"])
        self.assertEqual(len(self.held(answer_table(net))[2]), 5)

    # Twelve wires and no edge that could be taken off first.
    def test_a_ring_with_spikes(self):
        posts = "abcdef"
        rows = ["%s s%s" % (post, post) for post in posts]
        rows += ["%s s%s r%s r%s" % (post * 2, post, post, posts[posts.index(post) - 1]) for post in posts]
        dice = random.Random(108)
        for turn in range(5):
            sun = told("a b c d e f", rows)
            sun = (sun[0], sun[1], [(wire, some_worth(dice)) for wire, worth in sun[2]])
            net = self.held(answer_table(sun))
            self.assertEqual(len(net[2]), 12)

    # More posts than asked for: the first one hangs on one wire across two stars, and is no spike.
    def test_a_wire_across_between_two_stars(self):
        rows = ["a 0", "b 1", "c 2", "d 3", "e 4", "f 0", "g 5", "h 6", "i 7", "j 8", "m 1 2 3 4", "n 5 6 7 8"]
        net = told("a b c d e f g h i j", rows, {"0": (2, 3), "5": (1, 7)})
        vet(net)
        word, other = judged(answer_table(net))
        self.assertEqual((word, len(other[2])), ("net", 9))
        self.assertTrue(vet(other))
        self.assertTrue(is_lean(other))
        self.assertEqual(answer_table(other), answer_table(net))

    def test_samples_and_nets_that_are_not_lean(self):
        dice = random.Random(103)
        for net in SAMPLES + [ONE_POST, SIX_POSTS] + grown_nets(dice, 60) + drawn_nets(dice, 60, 15):
            self.assertIsNotNone(self.held(answer_table(net)))

    def test_lean_nets(self):
        dice = random.Random(104)
        for net in lean_nets(dice, 100):
            self.assertEqual(len(self.held(answer_table(net))[2]), len(net[2]))

    def test_all_shapes_of_up_to_four_posts(self):
        dice = random.Random(105)
        for size in range(1, 5):
            for posts, rows, worths in all_lean_nets(size):
                self.assertEqual(len(self.held(answer_table((posts, rows, worths)))[2]), len(worths))
                weighed = [(wire, some_worth(dice)) for wire, worth in worths]
                self.assertEqual(len(self.held(answer_table((posts, rows, weighed)))[2]), len(worths))

    def test_fifteen_wires(self):
        for net in full_nets(random.Random(106), 30):
            self.assertEqual(len(self.held(answer_table(net))[2]), 15)

    # Entries of sixty figures; slow ways take minutes here.
    def test_long_fractions(self):
        dice = random.Random(107)
        for net in full_nets(dice, 2) + lean_nets(dice, 4):
            table = answer_table(net)
            size = len(table)
            for i in range(size):
                for j in range(i):
                    bottom = dice.randint(10 ** 40, 10 ** 50)
                    table[i][j] = fraction(table[i][j][0] * bottom // table[i][j][1], bottom)
                    table[j][i] = table[i][j]
            for i in range(size):
                table[i][i] = (0, 1)
                for entry in table[i][:i] + table[i][i + 1:]:
                    table[i][i] = minus(table[i][i], entry)
            self.held(table)

    def test_all_is_new(self):
        for table in (answer_table(CROSS), answer_table(EDGE), table_of(3)):
            net = judged(table)[1]
            right = copy.deepcopy(net)
            spoil(net)
            self.assertEqual(judged(table), ("net", right))
        crossed = table_of(4, (0, 2, 1), (1, 3, 1))
        verdict = judged(crossed)
        verdict[1].append(9)
        verdict[2].clear()
        self.assertEqual(judged(crossed), ("minor", [0, 1], [3, 2]))


if __name__ == "__main__":
    unittest.main()
