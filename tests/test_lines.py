import copy
import random
import unittest

from plates import BRIDGE, CHAIN, CROSS, DEAD_END, EDGE, LOOP_WITHIN, ONE_POST, POST_LOOP, RING, SAMPLES, SIX_POSTS
from plates import STAR, TRIANGLE, TWINS, grown, grown_nets, told
from rimread.lines import line_from, lines_of

HANGING = told("a", ["a 1 2", "m 2 1"])
TWO_CLOSED = told("a b", ["a 1 2", "m 1 2", "b 4 3", "n 4 3"])


# By the words of the document. A corner is not taken all round before the end to cross is known: ahead of the
# first end of a point within lies the corner 0, behind the last one the corner m.
class Walk:
    def __init__(self, net):
        self.posts = net[0]
        self.wires = dict(net[1])
        standing = {}
        self.others = {}
        for point, wires in net[1]:
            for place, wire in enumerate(wires):
                if wire in standing:
                    self.others[point, place] = standing[wire]
                    self.others[standing[wire]] = (point, place)
                standing[wire] = (point, place)

    # The end k is crossed from the corner k, or else from the corner k + 1.
    def crossed(self, point, end, from_ahead):
        other, place = self.others[point, end]
        return (other, place, True) if from_ahead else (other, place, False)

    # Having crossed the end j, one is at the corner j or else j + 1; told is the next end, or the place on the rim.
    def next_end(self, point, crossed, at_corner_of_end):
        count = len(self.wires[point])
        following = crossed - 1 if at_corner_of_end else crossed + 1
        if point in self.posts and following == -1:
            return 2 * self.posts.index(point) + 1, None
        if point in self.posts and following == count:
            return 2 * self.posts.index(point), None
        return None, following % count

    # Behind the corner j the end j - 1 is crossed from its corner (j - 1) + 1, and so on.
    def line(self, point, end, from_ahead):
        start = (point, end, from_ahead)
        wires = []
        while True:
            wires.append(self.wires[point][end])
            point, place, at_corner = self.crossed(point, end, from_ahead)
            rim, end = self.next_end(point, place, at_corner)
            if rim is not None:
                return rim, wires
            from_ahead = not at_corner
            if (point, end, from_ahead) == start:
                return None, wires

    def from_place(self, place):
        post = self.posts[place // 2]
        count = len(self.wires[post])
        if count == 0:
            return place + 1 if place % 2 == 0 else place - 1, []
        return self.line(post, 0, True) if place % 2 == 1 else self.line(post, count - 1, False)


def rounds(wires):
    turned = wires[::-1]
    return [way[k:] + way[:k] for way in (wires, turned) for k in range(len(wires))]


def lines_by_words(net):
    walk = Walk(net)
    lines = []
    for place in range(2 * len(net[0])):
        last, wires = walk.from_place(place)
        if place < last:
            lines.append((place, last, wires))
    left = []
    for point, wires in net[1]:
        for end in range(len(wires)):
            last, crossed = walk.line(point, end, True)
            back, crossed_back = walk.line(point, end, False)
            for ended, found in ((last, crossed), (back, crossed_back)):
                if ended is None:
                    left.append(min(rounds(found)))
    # Each closed line was come upon once from each end of each wire that it crosses.
    closed = []
    for wires in sorted(left):
        if left.count(wires) // (2 * len(wires)) > closed.count(wires):
            closed.append(wires)
    return lines + [(None, None, wires) for wires in closed]


class LineFromTest(unittest.TestCase):
    def test_a_post_without_wires(self):
        self.assertEqual(line_from(ONE_POST, 0), (1, []))
        self.assertEqual(line_from(ONE_POST, 1), (0, []))
        for post in range(6):
            self.assertEqual(line_from(SIX_POSTS, 2 * post), (2 * post + 1, []))
            self.assertEqual(line_from(SIX_POSTS, 2 * post + 1), (2 * post, []))

    def test_an_edge(self):
        self.assertEqual([line_from(EDGE, place) for place in range(4)], [(2, ["w"]), (3, ["w"]), (0, ["w"]), (1, ["w"])])

    def test_through_a_point_within(self):
        self.assertEqual([line_from(STAR, place) for place in range(6)], [
            (3, ["1", "2"]), (4, ["1", "3"]), (5, ["2", "3"]), (0, ["2", "1"]), (1, ["3", "1"]), (2, ["3", "2"])])
        self.assertEqual([line_from(CROSS, place)[0] for place in range(8)], [3, 6, 5, 0, 7, 2, 1, 4])

    def test_wherever_the_list_begins(self):
        for within in ("m 1 2 3", "m 2 3 1", "m 3 1 2"):
            net = told("a b c", [within, "c 3", "a 1", "b 2"])
            self.assertEqual([line_from(net, place) for place in range(6)], [
                (3, ["1", "2"]), (4, ["1", "3"]), (5, ["2", "3"]), (0, ["2", "1"]), (1, ["3", "1"]), (2, ["3", "2"])])

    def test_between_posts(self):
        self.assertEqual([line_from(TRIANGLE, place) for place in range(6)], [
            (3, ["2", "3"]), (4, ["1", "3"]), (5, ["1", "2"]), (0, ["3", "2"]), (1, ["3", "1"]), (2, ["2", "1"])])
        # A post of three wires: the middle one is crossed by lines of other places.
        net = told("a b c d", ["a 1 2 3", "b 1", "c 2", "d 3"])
        self.assertEqual([line_from(net, place) for place in range(8)], [
            (6, ["3"]), (3, ["1"]), (5, ["1", "2"]), (1, ["1"]), (7, ["2", "3"]), (2, ["2", "1"]), (0, ["3"]),
            (4, ["3", "2"])])

    def test_a_dead_end(self):
        self.assertEqual(line_from(told("a", ["a w", "m w"]), 0), (1, ["w", "w"]))
        self.assertEqual(line_from(told("a", ["a w", "m w"]), 1), (0, ["w", "w"]))
        self.assertEqual([line_from(DEAD_END, place) for place in range(4)], [
            (2, ["w"]), (3, ["1", "1", "w"]), (0, ["w"]), (1, ["w", "1", "1"])])

    def test_a_loop(self):
        self.assertEqual(line_from(POST_LOOP, 0), (1, ["w", "w"]))
        self.assertEqual(line_from(POST_LOOP, 1), (0, ["w", "w"]))
        self.assertEqual(line_from(LOOP_WITHIN, 0), (1, ["t", "l", "l", "t"]))
        for within in ("m t l l", "m l l t", "m l t l"):
            net = told("a", ["a t", within])
            self.assertEqual(line_from(net, 1), (0, ["t", "l", "l", "t"]))

    def test_by_the_words_of_the_document(self):
        for net in SAMPLES + [BRIDGE, CROSS] + grown_nets(random.Random(31), 150):
            walk = Walk(net)
            for place in range(2 * len(net[0])):
                self.assertEqual(line_from(net, place), walk.from_place(place))

    def test_the_way_back(self):
        for net in SAMPLES + grown_nets(random.Random(32), 100):
            for place in range(2 * len(net[0])):
                last, wires = line_from(net, place)
                self.assertEqual(line_from(net, last), (place, wires[::-1]))


class LinesTest(unittest.TestCase):
    def test_by_hand(self):
        self.assertEqual(lines_of(ONE_POST), [(0, 1, [])])
        self.assertEqual(lines_of(SIX_POSTS), [(2 * post, 2 * post + 1, []) for post in range(6)])
        self.assertEqual(lines_of(EDGE), [(0, 2, ["w"]), (1, 3, ["w"])])
        self.assertEqual(lines_of(STAR), [(0, 3, ["1", "2"]), (1, 4, ["1", "3"]), (2, 5, ["2", "3"])])
        self.assertEqual(lines_of(TWINS), [(0, 1, ["2", "1"]), (2, 3, ["1", "2"])])
        self.assertEqual(lines_of(CHAIN), [(0, 3, ["1", "2"]), (1, 2, ["1", "2"])])
        self.assertEqual(lines_of(POST_LOOP), [(0, 1, ["w", "w"])])

    def test_a_wire_crossed_twice_by_one_line(self):
        self.assertEqual(lines_of(RING), [
            (0, 5, ["1", "4", "5", "3"]), (1, 2, ["1", "6", "5", "2"]),
            (3, 4, ["2", "4", "7", "7", "8", "8", "6", "3"])])
        self.assertEqual(lines_of(told("a", ["a 1 2 3", "m 3 2 1"])), [(0, 1, ["3", "2", "1", "3", "2", "1"])])

    def test_a_closed_line(self):
        self.assertEqual(lines_of(HANGING), [(0, 1, ["2", "1"]), (None, None, ["1", "2"])])
        self.assertEqual(lines_of(BRIDGE), [
            (0, 2, ["2", "3", "4"]), (1, 3, ["1", "3", "5"]), (None, None, ["1", "2", "5", "4"])])

    def test_a_closed_line_begins_and_goes_so_that_its_wires_are_the_least(self):
        bridges = {"1 2 3 4 5": ["1", "2", "5", "4"], "5 4 3 2 1": ["1", "2", "5", "4"],
                   "2 9 10 7 8": ["2", "7", "8", "9"], "x y z b a": ["a", "b", "x", "y"],
                   "y x z a b": ["a", "b", "x", "y"], "4 1 a 3 2": ["1", "2", "3", "4"]}
        for names, wires in bridges.items():
            a, b, c, d, e = names.split()
            net = told("p q", ["p %s %s" % (a, b), "m %s %s %s" % (a, d, c), "n %s %s %s" % (e, b, c), "q %s %s" % (e, d)])
            self.assertEqual(lines_of(net)[2], (None, None, wires))

    def test_two_closed_lines(self):
        self.assertEqual(lines_of(TWO_CLOSED), [
            (0, 1, ["2", "1"]), (2, 3, ["3", "4"]), (None, None, ["1", "2"]), (None, None, ["3", "4"])])
        swapped = told("b a", ["b 4 3", "n 4 3", "a 1 2", "m 1 2"])
        self.assertEqual(lines_of(swapped)[2:], [(None, None, ["1", "2"]), (None, None, ["3", "4"])])
        # A dead end makes the closed line round it cross a wire twice.
        net = told("a", ["a 4 5 3 2", "m 4 5", "n 3 1 2", "d 1"])
        self.assertEqual(lines_of(net), [
            (0, 1, ["2", "3", "5", "4"]), (None, None, ["1", "1", "2", "3"]), (None, None, ["4", "5"])])

    def test_by_the_words_of_the_document(self):
        closed = {}
        dice = random.Random(33)
        for net in SAMPLES + [HANGING, TWO_CLOSED] + grown_nets(dice, 100) + [grown(dice, 2, 5, 15) for turn in range(60)]:
            lines = lines_of(net)
            self.assertEqual(lines, lines_by_words(net))
            count = len([line for line in lines if line[0] is None])
            closed[count] = closed.get(count, 0) + 1
        self.assertGreater(min(closed[0], closed[1], closed[2]), 1)

    def test_each_place_in_one_line_and_each_wire_crossed_twice(self):
        for net in SAMPLES + grown_nets(random.Random(34), 150):
            lines = lines_of(net)
            joining = lines[:len(net[0])]
            self.assertEqual(sorted(place for line in joining for place in line[:2]), list(range(2 * len(net[0]))))
            self.assertEqual(joining, sorted(joining))
            self.assertTrue(all(first < last for first, last, wires in joining))
            self.assertTrue(all(line[:2] == (None, None) for line in lines[len(net[0]):]))
            crossed = sorted(wire for line in lines for wire in line[2])
            self.assertEqual(crossed, sorted([wire for wire, worth in net[2]] * 2))

    def test_nothing_is_changed_and_all_is_new(self):
        for net in SAMPLES + [BRIDGE, TWO_CLOSED]:
            kept = copy.deepcopy(net)
            lines = lines_of(net)
            right = copy.deepcopy(lines)
            for first, last, wires in lines:
                wires.clear()
            lines.clear()
            self.assertEqual(lines_of(net), right)
            line = line_from(net, 0)
            right = copy.deepcopy(line)
            line[1].append("x")
            self.assertEqual(line_from(net, 0), right)
            self.assertEqual(net, kept)

    def test_what_is_told_stays_when_the_net_is_changed(self):
        net = copy.deepcopy(RING)
        lines = lines_of(net)
        net[0].reverse()
        for point, wires in net[1]:
            wires.clear()
        self.assertEqual(lines, lines_of(RING))


if __name__ == "__main__":
    unittest.main()
