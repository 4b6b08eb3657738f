import copy
import random
import unittest

from plates import DEAD_END, EDGE, LOOP_WITHIN, ONE_POST, POST_LOOP, RING, SAMPLES, SIX_POSTS, STAR, TWINS
from plates import drawn, grown_nets, told
from rimread.errors import Loose, NoNet, NoPlane
from rimread.nets import corners_of, ends_of, other_end, points_within, vet

BAD_NAMES = ("", "abcdefghi", "A", "aB", " ", "a b", "a ", " a", "a-b", "a\n", "~", "\u00e9", "\u0661")
NO_WORTHS = ((0, 1), (-1, 2), (2, 4), (6, 3), (1, 0), (0, 0), (0, 5), (1, -2), (-1, -2), (-3, 1), (5, 5))


def with_row(net, number, row):
    return (net[0], net[1][:number] + [row] + net[1][number + 1:], net[2])


def with_worths(net, worths):
    return (net[0], net[1], worths)


class LetByTest(unittest.TestCase):
    def let_by(self, net):
        self.assertIs(vet(net), True)

    def refused(self, refusal, net):
        kept = copy.deepcopy(net)
        with self.assertRaises(refusal):
            vet(net)
        self.assertEqual(net, kept)


class NetsLetByTest(LetByTest):
    def test_samples(self):
        for net in SAMPLES:
            with self.subTest(net=net):
                self.let_by(net)

    def test_one_post_without_wires(self):
        self.let_by((["a"], [("a", [])], []))

    def test_six_posts(self):
        self.let_by(SIX_POSTS)
        self.let_by(told("a b c d e f", ["a 1 6", "b 2 1", "c 3 2", "d 4 3", "e 5 4", "f 6 5"]))
        self.let_by(told("a b c d e f", ["f 6", "m 1 2 3 4 5 6", "b 2", "c 3", "a 1", "e 5", "d 4"]))

    def test_loops(self):
        self.let_by(POST_LOOP)
        self.let_by(LOOP_WITHIN)
        self.let_by(told("a", ["a v w w v"]))
        self.let_by(told("a", ["a v v w w"]))
        self.let_by(told("a", ["a t", "m v w w v t"]))
        # A loop round another point that hangs within it, and one that begins ahead of the list's start.
        self.let_by(told("a", ["a w t w", "m t"]))
        self.let_by(told("a", ["a t", "m w t w"]))
        self.let_by(told("a", ["a t", "m w t w n", "k n"]))

    def test_two_wires_between_the_same_points(self):
        self.let_by(TWINS)
        self.let_by(told("a", ["a 1 2", "m 1 2"]))
        self.let_by(told("a", ["a t", "m t 1 2", "n 2 1"]))
        self.let_by(told("a b", ["a 1 2 3", "b 3 2 1"]))

    def test_a_wire_called_as_a_point_is(self):
        self.let_by(told("a b", ["a a b", "b b a"]))
        self.let_by(told("a", ["a m", "m m"]))

    def test_wires_between_posts(self):
        self.let_by(EDGE)
        self.let_by(told("a b c d", ["a 1 5 4", "b 2 1", "c 3 5 2", "d 4 3"]))

    def test_rows_in_any_order(self):
        dice = random.Random(1)
        for net in grown_nets(dice, 30):
            rows = list(net[1])
            dice.shuffle(rows)
            self.let_by((net[0], rows, net[2]))

    def test_lists_of_points_within_begun_anywhere(self):
        for net in SAMPLES:
            for number, row in enumerate(net[1]):
                if row[0] not in net[0]:
                    for turn in range(len(row[1])):
                        self.let_by(with_row(net, number, (row[0], row[1][turn:] + row[1][:turn])))

    def test_posts_begun_anywhere(self):
        for turn in range(6):
            posts = list("abcdef")[turn:] + list("abcdef")[:turn]
            self.let_by((posts, told("", ["f 6", "m 1 2 3 4 5 6", "b 2", "c 3", "a 1", "e 5", "d 4"])[1], [
                (wire, (1, 1)) for wire in "123456"]))

    def test_longest_names_and_any_worths(self):
        self.let_by((["abcdefgh", "0"], [("abcdefgh", ["12345678"]), ("0", ["12345678"])], [("12345678", (1, 1000))]))
        self.let_by((["a", "b"], [("a", ["w"]), ("b", ["w"])], [("w", (10 ** 90, 10 ** 90 + 1))]))

    def test_worths_sorted_as_texts(self):
        self.let_by(told("a b", ["a 10 9 a 1 b", "b b 1 a 9 10"]))
        self.assertEqual([wire for wire, worth in told("a b", ["a 10 9 a 1 b", "b b 1 a 9 10"])[2]],
                         ["1", "10", "9", "a", "b"])

    def test_nets_grown_by_chance(self):
        for net in grown_nets(random.Random(2), 150):
            self.let_by(net)

    def test_nets_drawn_with_straight_wires(self):
        dice = random.Random(3)
        for number in range(60):
            self.let_by(drawn(dice, dice.randint(3, 6), dice.randint(0, 10), dice.randint(0, 15))[0])

    def test_more_points_than_are_handed_in_first(self):
        rows = ["a w1"] + ["m%d w%d w%d" % (k, k, k + 1) for k in range(1, 20)] + ["b w20"]
        self.let_by(told("a b", rows))


class NoNetTest(LetByTest):
    def test_names_of_points(self):
        for name in BAD_NAMES:
            with self.subTest(name=name):
                self.refused(NoNet, (["a"], [("a", ["w"]), (name, ["w"])], [("w", (1, 1))]))

    def test_names_of_wires(self):
        for name in BAD_NAMES:
            with self.subTest(name=name):
                self.refused(NoNet, (["a", "b"], [("a", [name]), ("b", [name])], [(name, (1, 1))]))

    def test_names_of_posts(self):
        for name in BAD_NAMES:
            with self.subTest(name=name):
                self.refused(NoNet, ([name], [(name, [])], []))
                self.refused(NoNet, (["a", name], [("a", []), (name, [])], []))

    def test_a_point_with_two_rows(self):
        self.refused(NoNet, (["a"], [("a", []), ("a", [])], []))
        self.refused(NoNet, (["a"], [("a", ["1"]), ("m", ["1", "2"]), ("m", ["2"])], [("1", (1, 1)), ("2", (1, 1))]))
        self.refused(NoNet, (["a"], [("a", ["1", "2"]), ("m", ["1"]), ("m", ["2"])], [("1", (1, 1)), ("2", (1, 1))]))

    def test_a_post_listed_twice(self):
        self.refused(NoNet, (["a", "a"], [("a", [])], []))
        self.refused(NoNet, (["a", "b", "a"], EDGE[1], EDGE[2]))

    def test_a_post_without_a_row(self):
        self.refused(NoNet, (["a"], [], []))
        self.refused(NoNet, (["a", "b"], [("a", [])], []))
        self.refused(NoNet, (["a", "b", "c"], EDGE[1], EDGE[2]))

    def test_a_wire_that_stands_otherwise_than_twice(self):
        self.refused(NoNet, told("a b", ["a w", "b"]))
        self.refused(NoNet, told("a b c", ["a w", "b w", "c w"]))
        self.refused(NoNet, told("a", ["a w w w"]))
        self.refused(NoNet, told("a b", ["a w w", "b w w"]))
        self.refused(NoNet, told("a b c d", ["a w", "b w", "c w", "d w"]))
        # Twice on the whole, but not each of the two.
        self.refused(NoNet, told("a b", ["a v w", "b w w"]))

    def test_a_worth_left_out(self):
        for number in range(3):
            self.refused(NoNet, with_worths(STAR, STAR[2][:number] + STAR[2][number + 1:]))
        self.refused(NoNet, with_worths(EDGE, []))

    def test_a_worth_told_twice(self):
        for number in range(3):
            self.refused(NoNet, with_worths(STAR, STAR[2][:number] + [STAR[2][number]] + STAR[2][number:]))
        self.refused(NoNet, with_worths(EDGE, [("w", (2, 3)), ("w", (1, 1))]))

    def test_worths_out_of_order(self):
        self.refused(NoNet, with_worths(STAR, STAR[2][::-1]))
        self.refused(NoNet, with_worths(STAR, [STAR[2][0], STAR[2][2], STAR[2][1]]))
        # 10 stands ahead of 9, as texts are sorted.
        self.refused(NoNet, (["a", "b"], [("a", ["9", "10"]), ("b", ["10", "9"])], [("9", (1, 1)), ("10", (1, 1))]))

    def test_a_worth_for_a_name_that_no_wire_has(self):
        self.refused(NoNet, with_worths(STAR, STAR[2] + [("4", (1, 1))]))
        self.refused(NoNet, with_worths(STAR, [("0", (1, 1))] + STAR[2]))
        self.refused(NoNet, with_worths(STAR, STAR[2][:2] + [("4", (1, 1))]))
        self.refused(NoNet, with_worths(STAR, STAR[2] + [("a", (1, 1))]))
        self.refused(NoNet, with_worths(ONE_POST, [("a", (1, 1))]))

    def test_what_is_no_worth(self):
        for worth in NO_WORTHS:
            with self.subTest(worth=worth):
                self.refused(NoNet, with_worths(EDGE, [("w", worth)]))
                for number in range(3):
                    worths = list(STAR[2])
                    worths[number] = (worths[number][0], worth)
                    self.refused(NoNet, with_worths(STAR, worths))


class LooseTest(LetByTest):
    def test_a_point_within_alone(self):
        self.refused(Loose, told("a", ["a", "m"]))
        self.refused(Loose, told("a", ["m", "a"]))
        self.refused(Loose, told("a b", ["a w", "b w", "m"]))

    def test_a_point_within_with_loops_alone(self):
        self.refused(Loose, told("a", ["a", "m w w"]))
        self.refused(Loose, told("a", ["a", "m v v w w"]))

    def test_a_part_that_hangs_on_no_post(self):
        self.refused(Loose, told("a", ["a", "m w", "n w"]))
        self.refused(Loose, told("a b", ["a 0", "b 0", "k 1 3", "m 2 1", "n 3 2"]))
        self.refused(Loose, told("a b", ["k 1 3", "m 2 1", "a 0", "n 3 2", "d 0", "b"]))

    def test_wires_called_as_a_post_do_not_tie_to_it(self):
        self.refused(Loose, told("a", ["a", "m a", "n a"]))


class NoPlaneTest(LetByTest):
    def test_two_wires_that_cross(self):
        self.refused(NoPlane, told("a b", ["a 1 2", "b 1 2"]))
        self.refused(NoPlane, told("a b c d", ["a 1", "b 2", "c 1", "d 2"]))
        self.let_by(told("a", ["a 1 2 3", "m 1 3 2"]))
        self.refused(NoPlane, told("a", ["a 1 2 3", "m 1 2 3"]))

    def test_two_loops_that_cross(self):
        self.refused(NoPlane, told("a", ["a v w v w"]))
        self.refused(NoPlane, told("a", ["a t", "m t v w v w"]))
        self.refused(NoPlane, told("a", ["a t", "m v w t v w"]))

    def test_posts_in_another_order_than_round_the_rim(self):
        rows = ["a 1", "b 2", "c 3", "m 1 2 3"]
        for posts in ("a b c", "b c a", "c a b"):
            self.let_by(told(posts, rows))
        for posts in ("a c b", "c b a", "b a c"):
            self.refused(NoPlane, told(posts, rows))
        square = ["a 1 4", "b 2 1", "c 3 2", "d 4 3"]
        self.let_by(told("a b c d", square))
        for posts in ("a c b d", "a b d c", "d c b a"):
            self.refused(NoPlane, told(posts, square))

    def test_a_list_turned_the_other_way(self):
        self.refused(NoPlane, told("a b c", ["a 1", "b 2", "c 3", "m 3 2 1"]))
        self.refused(NoPlane, told("a b", ["a 1", "b 4", "m 1 2 3", "n 4 2 3"]))
        self.let_by(told("a b", ["a 1", "b 4", "m 1 2 3", "n 4 3 2"]))

    def test_the_list_of_a_post_begun_elsewhere(self):
        self.let_by(told("a b c", ["a 1 2", "b 1", "c 2"]))
        self.refused(NoPlane, told("a b c", ["a 2 1", "b 1", "c 2"]))

    def test_a_loop_that_shuts_a_post_off(self):
        self.refused(NoPlane, told("a b", ["a w t w", "b t"]))


class OrderTest(LetByTest):
    def test_no_net_ahead_of_loose(self):
        self.refused(NoNet, told("a", ["a", "M"]))
        self.refused(NoNet, told("a", ["a", "m w"]))
        self.refused(NoNet, told("a", ["a", "m", "m"]))
        self.refused(NoNet, (["a", "a"], [("a", []), ("m", [])], []))
        self.refused(NoNet, (["a", "b"], [("a", []), ("m", [])], []))
        self.refused(NoNet, told("a", ["a", "m w", "n w"], {"w": (0, 1)}))
        self.refused(NoNet, (["a"], [("a", []), ("m", [])], [("w", (1, 1))]))

    def test_no_net_ahead_of_no_plane(self):
        crossed = told("a b", ["a 1 2", "b 1 2"])
        self.refused(NoPlane, crossed)
        self.refused(NoNet, with_worths(crossed, [("1", (1, 1)), ("2", (2, 2))]))
        self.refused(NoNet, with_worths(crossed, crossed[2][::-1]))
        self.refused(NoNet, (["a", "b", "c"], crossed[1], crossed[2]))
        self.refused(NoNet, told("a b", ["a 1 2 C", "b C 1 2"]))
        self.refused(NoNet, told("a b", ["a 1 2 3", "b 1 2"]))

    def test_loose_ahead_of_no_plane(self):
        self.refused(Loose, told("a b", ["a 1 2", "b 1 2", "m"]))
        self.refused(Loose, told("a", ["a", "m v w v w"]))
        self.refused(Loose, told("a b", ["a 1 2", "b 1 2", "m 3", "n 3"]))

    def test_no_net_ahead_of_both(self):
        self.refused(NoNet, told("a b", ["a 1 2", "b 1 2", "m"], {"1": (-1, 1)}))


class PartsTest(unittest.TestCase):
    def test_points_within_in_the_order_of_rows(self):
        self.assertEqual(points_within(ONE_POST), [])
        self.assertEqual(points_within(EDGE), [])
        self.assertEqual(points_within(STAR), ["m"])
        self.assertEqual(points_within(RING), ["x", "y", "z", "d"])
        for net in grown_nets(random.Random(4), 30):
            self.assertEqual(points_within(net), [row[0] for row in net[1] if row[0] not in net[0]])

    def test_ends_as_they_stand_in_rows(self):
        self.assertEqual(ends_of(EDGE, "w"), [("a", 0), ("b", 0)])
        self.assertEqual(ends_of(RING, "3"), [("c", 0), ("z", 2)])
        self.assertEqual(ends_of(RING, "1"), [("x", 1), ("a", 0)])
        self.assertEqual(ends_of(RING, "6"), [("x", 0), ("z", 0)])
        self.assertEqual(ends_of(told("a b", ["b w", "a w"]), "w"), [("b", 0), ("a", 0)])
        self.assertEqual(ends_of(TWINS, "1"), [("a", 0), ("b", 1)])
        self.assertEqual(ends_of(TWINS, "2"), [("a", 1), ("b", 0)])

    def test_ends_of_a_loop(self):
        self.assertEqual(ends_of(POST_LOOP, "w"), [("a", 0), ("a", 1)])
        self.assertEqual(ends_of(LOOP_WITHIN, "l"), [("m", 1), ("m", 2)])
        self.assertEqual(ends_of(told("a", ["a t", "m w t w"]), "w"), [("m", 0), ("m", 2)])

    def test_other_end_both_ways_round(self):
        self.assertEqual(other_end(EDGE, ("a", 0)), ("b", 0))
        self.assertEqual(other_end(EDGE, ("b", 0)), ("a", 0))
        self.assertEqual(other_end(TWINS, ("a", 0)), ("b", 1))
        self.assertEqual(other_end(TWINS, ("b", 0)), ("a", 1))
        self.assertEqual(other_end(LOOP_WITHIN, ("m", 1)), ("m", 2))
        self.assertEqual(other_end(LOOP_WITHIN, ("m", 2)), ("m", 1))
        self.assertEqual(other_end(LOOP_WITHIN, ("m", 0)), ("a", 0))

    def test_ends_of_all_wires(self):
        for net in SAMPLES + grown_nets(random.Random(5), 30):
            standing = [((point, place), wire) for point, wires in net[1] for place, wire in enumerate(wires)]
            for wire, worth in net[2]:
                ends = ends_of(net, wire)
                self.assertEqual(ends, [end for end, name in standing if name == wire])
                self.assertEqual(other_end(net, ends[0]), ends[1])
                self.assertEqual(other_end(net, ends[1]), ends[0])

    def test_corners_row_by_row_and_place_by_place(self):
        self.assertEqual(corners_of(ONE_POST), [("a", 0)])
        self.assertEqual(corners_of(told("b a", ["a", "b"])), [("a", 0), ("b", 0)])
        self.assertEqual(corners_of(EDGE), [("a", 0), ("a", 1), ("b", 0), ("b", 1)])
        self.assertEqual(corners_of(POST_LOOP), [("a", 0), ("a", 1), ("a", 2)])
        self.assertEqual(corners_of(LOOP_WITHIN), [("a", 0), ("a", 1), ("m", 0), ("m", 1), ("m", 2)])
        self.assertEqual(corners_of(DEAD_END), [
            ("a", 0), ("a", 1), ("a", 2), ("b", 0), ("b", 1), ("m", 0)])
        self.assertEqual(corners_of(told("a b", ["m 1", "b w", "a 1 w"])), [
            ("m", 0), ("b", 0), ("b", 1), ("a", 0), ("a", 1), ("a", 2)])

    def test_number_of_corners(self):
        for net in grown_nets(random.Random(6), 30):
            corners = []
            for point, wires in net[1]:
                more = 1 if point in net[0] else 0
                corners += [(point, place) for place in range(len(wires) + more)]
            self.assertEqual(corners_of(net), corners)


class KeptTest(unittest.TestCase):
    def asked(self, net):
        answers = [points_within(net), corners_of(net)]
        for wire, worth in net[2]:
            answers.append(ends_of(net, wire))
            answers += [[other_end(net, end)] for end in ends_of(net, wire)]
        return answers

    def test_nothing_that_is_handed_in_is_changed(self):
        for net in SAMPLES:
            kept = copy.deepcopy(net)
            vet(net)
            self.asked(net)
            self.assertEqual(net, kept)

    def test_what_is_told_is_new_each_time(self):
        for net in SAMPLES:
            kept = copy.deepcopy(net)
            first = self.asked(net)
            right = copy.deepcopy(first)
            for answer in first:
                answer.reverse()
                answer.append("x")
            self.assertEqual(net, kept)
            self.assertEqual(self.asked(net), right)
            self.assertIs(vet(net), True)

    def test_what_is_told_stays_when_the_net_is_changed(self):
        net = copy.deepcopy(RING)
        first = self.asked(net)
        right = copy.deepcopy(first)
        net[0].clear()
        for point, wires in net[1]:
            wires.clear()
        net[1].clear()
        net[2].clear()
        self.assertEqual(first, right)


if __name__ == "__main__":
    unittest.main()
