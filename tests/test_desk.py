import random
import re
import unittest

from plates import BRIDGE, CROSS, EDGE, LOOP_WITHIN, ONE_POST, RING, SAMPLES, STAR, TRIANGLE, TWINS, drawn_nets, full_nets
from plates import lean_nets, told
from rimread.answers import answer_table
from rimread.deeds import deed_done
from rimread.desk import Desk
from rimread.errors import Loose, NoCorner, NoNet, NoPlane, NoRegion, NoRow, NoStep, NotLean, NoText, NoWire, NoWorth
from rimread.errors import RimError, Taken, TooMany
from rimread.leaning import made_lean
from rimread.notes import grid_shown, net_read, net_shown

STAR_TEXT = "rim a b c\nat a 1\nat b 2\nat c 3\nat m 1 2 3\nwire 1 1/1\nwire 2 2/1\nwire 3 3/1"
# Rows that no desk takes, whatever stands.
NO_ROWS = [
    "", " ", "  ", "\n", "show ", " show", "show show", "Show", "shows", "show\n", "\nshow", "table x", "table ", "tables",
    "lean yes", "lean\n", "lines 1", " lines", "thin 1", "thin ", "read 1", "read\n", "hello", "ok", "rim a", "net", "net ",
    "net rim a", "net \nrim a", " net\nrim a", "Net\nrim a", "nets\nrim a", "show\nnet", "table\nrim a",
    "lay", "lay a 0 b 1 w", "lay a 0 b 1 w 1/1 x", "lay a 0 b 1", "lay  a 0 b 1 w 1/1", "lay a 0 b 1  w 1/1",
    "lay a 0 b 1 w 1/1 ", " lay a 0 b 1 w 1/1", "lay a 0 b 1 w 1/1\n", "lay\na 0 b 1 w 1/1", "lay a 0 b\n1 w 1/1",
    "lay a 00 b 1 w 1/1", "lay a 0 b 01 w 1/1", "lay a -1 b 1 w 1/1", "lay a +0 b 1 w 1/1", "lay a -0 b 1 w 1/1",
    "lay a x b 1 w 1/1", "lay a 0 b 1.0 w 1/1", "lay a 0/1 b 1 w 1/1", "lay a 0 b 1 w 1", "lay a 0 b 1 w 2/4",
    "lay a 0 b 1 w 0/1", "lay a 0 b 1 w -1/2", "lay a 0 b 1 w +1/2", "lay a 0 b 1 w 01/2", "lay a 0 b 1 w 1/0",
    "lay a  b 1 w 1/1", "lay a 0 b  w 1/1", "lay a 0 b 1 w ", "lay a 0 b 1  ", "lay      ",
    "lay a 0 b 1 1/1 w", "lay 0 a b 1 w 1/1", "lay a 0 b 1 w 1/1/1", "lay a 0 b 1 w /1", "lay a 0 b 1 w 1/",
    "grow", "grow a 0 w 1/1", "grow a 0 w 1/1 n n", "grow a 0 w n 1/1", "grow a 0  w 1/1 n", "grow a 00 w 1/1 n",
    "grow a -1 w 1/1 n", "grow a 0 w 3/6 n", "grow a 0 w 0/1 n", "grow a 0 w 1/1 n\n", "grow a 0 w 1 n", "grow a 0 w  n",
    "grow a  w 1/1 n", "grow a 0 w 1/1 n ", "grow  a 0 w 1/1", " grow a 0 w 1/1",
    "cut", "cut  ", "cut 1 2", "cut  1", "cut 1 ", " cut 1", "cut 1\n", "Cut 1",
    "weigh", "weigh 1", "weigh 1 2", "weigh 1 2/4", "weigh 1 0/1", "weigh 1 -1/2", "weigh 1 1/1 1", "weigh  1 1/1",
    "weigh 1 1/1 ", "weigh 1/1", "weigh 1 1.5", "weigh 1 1//1", "weigh 1 1/1\n", "weigh ", "weigh  ", "weigh 1 ",
    "weigh   1/1",
    "loop", "loop  ", "loop 1 2", "loop\n1", "loop \n", "loop 1 ", "dead", "dead  ", "dead 1 2", "dead  1", "chain",
    "chain  ", "chain m m", "chain m ", "twins", "twins ", "twins   ", "twins 1", "twins 1 2 3", "twins 1 2 ", "twins 1  2",
    "star", "star  ", "star m m", "star m\n", "star  m", "star m ", "ring", "ring ", "ring   ", "ring     ", "ring 1 2 3",
    "ring 1 2 3 n n", "ring  1 2 3 n", "ring 1 2 3 n ", "ring 1 2 3  n", "ring 1 2 3 n\n", " ring 1 2 3", " star",
    "judge", "judge ", "judge  0/1", "judge 0/1 ", "judge 0", "judge 0/2", "judge -0/1", "judge 00/1", "judge 0/01",
    "judge 2/4", "judge +1/1", "judge 1/-1", "judge x", "judge 0/1\n", "judge\n0/1", "judge 0/1 0/1", "judge 0/1 0/1 0/1",
    "judge" + " 0/1" * 5, "judge" + " 0/1" * 8, "judge" + " 0/1" * 35, "judge" + " 0/1" * 37, "judge" + " 0/1" * 49,
    "judge" + " 0/1" * 3 + " 0", "judge" + " 0/1" * 3 + "  0/1", "judges 0/1", "Judge 0/1",
]
# What the words behind the first one are, of each deed: n a name, k a number, w a worth.
DEEDS_BY_WORDS = {
    "lay": "nknknw", "grow": "nknwn", "cut": "n", "weigh": "nw", "loop": "n", "dead": "n", "chain": "n", "twins": "nn",
    "star": "n", "ring": "nnnn",
}
WORDS_TRIED = {
    "n": ["", "", "a", "b", "m", "1", "2", "3", "v", "w"], "k": ["", "0", "0", "1", "1", "2", "00"],
    "w": ["", "1/2", "3/1", "3/1", "2/4"],
}


# A row by its words: the deed, or None where the row is refused with NoRow.
def deed_by_words(row):
    word, *others = row.split(" ")
    kinds = DEEDS_BY_WORDS.get(word, "")
    if len(others) != len(kinds):
        return None
    values = list(others)
    for place, kind in enumerate(kinds):
        if kind == "k" and re.fullmatch("0|[1-9][0-9]*", others[place]) is None:
            return None
        if kind == "w" and others[place] not in ("1/2", "3/1"):
            return None
        if kind != "n":
            parts = [int(part) for part in others[place].split("/")]
            values[place] = parts[0] if kind == "k" else tuple(parts)
    if word in ("lay", "grow"):
        values = [tuple(values[:2])] + values[2:]
    if word == "lay":
        values[1:3] = [tuple(values[1:3])]
    return (word, *values)


class DeskTest(unittest.TestCase):
    def desk_with(self, net):
        desk = Desk()
        self.assertEqual(desk.say("net\n" + net_shown(net)), "ok")
        return desk

    # What is asked for changes nothing, nor does what is refused.
    def refused(self, refusal, desk, row):
        standing = desk.say("show")
        with self.assertRaises(refusal) as caught:
            desk.say(row)
        self.assertIs(caught.exception.__class__, refusal, row)
        self.assertEqual(desk.say("show"), standing)

    def test_at_first(self):
        desk = Desk()
        self.assertEqual(desk.say("show"), "rim a\nat a")
        self.assertEqual(desk.say("table"), "0/1")
        self.assertEqual(desk.say("lean"), "yes")
        self.assertEqual(desk.say("lines"), "0-1")
        self.assertEqual(desk.say("thin"), "0")
        self.assertEqual(desk.say("read"), "")
        self.assertEqual(desk.say("show"), "rim a\nat a")

    def test_net(self):
        desk = Desk()
        self.assertEqual(desk.say("net\n" + STAR_TEXT), "ok")
        self.assertEqual(desk.say("show"), STAR_TEXT)
        for net in SAMPLES + lean_nets(random.Random(151), 20):
            self.assertEqual(desk.say("net\n" + net_shown(net)), "ok")
            self.assertEqual(desk.say("show"), net_shown(net))
            self.assertEqual(desk.say("table"), grid_shown(answer_table(net)))

    def test_net_refused(self):
        desk = self.desk_with(STAR)
        for text in ("", "rim", "rim a ", "rim a\n", "rim a\nat  a", "rim a b c d e f g", "at a", "\nrim a"):
            self.refused(NoText, desk, "net\n" + text)
        self.refused(NoText, desk, "net\nrim a\nat a w w\nwire w 2/4")
        self.refused(NoNet, desk, "net\nrim a")
        self.refused(NoNet, desk, "net\nrim a\nat a w\nwire w 1/1")
        self.refused(NoNet, desk, "net\nrim a\nat a v v w w\nwire w 1/1\nwire v 1/1")
        self.refused(Loose, desk, "net\nrim a\nat a\nat m")
        self.refused(NoPlane, desk, "net\nrim a\nat a v w v w\nwire v 1/1\nwire w 1/1")

    def test_lay_and_grow(self):
        desk = Desk()
        self.assertEqual(desk.say("grow a 0 w 1/2 m"), "ok")
        self.assertEqual(desk.say("show"), "rim a\nat a w\nat m w\nwire w 1/2")
        self.assertEqual(desk.say("lay a 1 m 0 v 3/4"), "ok")
        self.assertEqual(desk.say("show"), "rim a\nat a w v\nat m v w\nwire v 3/4\nwire w 1/2")
        self.assertEqual(desk.say("lay m 0 m 0 l 1000/999"), "ok")
        self.assertEqual(desk.say("show"), "rim a\nat a w v\nat m l l v w\nwire l 1000/999\nwire v 3/4\nwire w 1/2")

    def test_cut_and_weigh(self):
        desk = self.desk_with(STAR)
        self.assertEqual(desk.say("cut 1"), "ok")
        self.assertEqual(desk.say("show"), "rim a b c\nat a\nat b 2\nat c 3\nat m 2 3\nwire 2 2/1\nwire 3 3/1")
        self.assertEqual(desk.say("weigh 3 7/9"), "ok")
        self.assertEqual(desk.say("show"), "rim a b c\nat a\nat b 2\nat c 3\nat m 2 3\nwire 2 2/1\nwire 3 7/9")

    def test_steps(self):
        pairs = [
            (LOOP_WITHIN, "loop l"), (told("a b", ["a 1 w", "b w", "m 1"]), "dead 1"),
            (told("a b", ["a 1", "m 1 2", "b 2"]), "chain m"), (TWINS, "twins 1 2"), (TWINS, "twins 2 1"), (STAR, "star m"),
            (TRIANGLE, "ring 1 2 3 n"), (TRIANGLE, "ring 3 1 2 n"),
        ]
        for net, row in pairs:
            desk = self.desk_with(net)
            self.assertEqual(desk.say(row), "ok")
            self.assertEqual(desk.say("show"), net_shown(deed_done(net, tuple(row.split(" ")))))

    def test_table_lean_and_lines(self):
        desk = self.desk_with(STAR)
        self.assertEqual(desk.say("table"), "5/6 -1/3 -1/2\n-1/3 4/3 -1/1\n-1/2 -1/1 3/2")
        self.assertEqual(desk.say("lean"), "yes")
        self.assertEqual(desk.say("lines"), "0-3 1-4 2-5")
        desk = self.desk_with(TWINS)
        self.assertEqual(desk.say("lean"), "no")
        self.assertEqual(desk.say("lines"), "0-1 2-3")
        # Closed lines stand behind those that join places.
        desk = self.desk_with(told("a", ["a 1 2", "m 2 1"]))
        self.assertEqual(desk.say("lines"), "0-1 closed")
        desk = self.desk_with(told("a b", ["a 1 2 3 4", "m 2 1", "n 4 3", "b"]))
        self.assertEqual(desk.say("lines"), "0-1 2-3 closed closed")
        desk = self.desk_with(told("a b c d e f", ["a", "b", "c", "d", "e", "f"]))
        self.assertEqual(desk.say("lines"), "0-1 2-3 4-5 6-7 8-9 10-11")

    def test_thin(self):
        for net in [TWINS, BRIDGE, RING, LOOP_WITHIN, CROSS] + drawn_nets(random.Random(152), 20, 15):
            desk = self.desk_with(net)
            table = desk.say("table")
            self.assertEqual(desk.say("thin"), str(len(made_lean(net)[0])))
            self.assertEqual(desk.say("lean"), "yes")
            self.assertEqual(desk.say("table"), table)
            self.assertEqual(desk.say("show"), net_shown(made_lean(net)[1]))
            self.assertEqual(desk.say("thin"), "0")

    def test_read(self):
        self.assertEqual(self.desk_with(STAR).say("read"), "1 1/1\n2 2/1\n3 3/1")
        self.assertEqual(self.desk_with(EDGE).say("read"), "w 2/3")
        for net in lean_nets(random.Random(153), 20) + full_nets(random.Random(154), 2):
            desk = self.desk_with(net)
            self.assertEqual(desk.say("read"), "\n".join("%s %d/%d" % (wire, *worth) for wire, worth in net[2]))
            self.assertEqual(desk.say("show"), net_shown(net))
        for net in (TWINS, BRIDGE, RING):
            desk = self.desk_with(net)
            self.refused(NotLean, desk, "read")
            desk.say("thin")
            self.assertEqual(len(desk.say("read").split()), 2 * len(made_lean(net)[1][2]))

    def test_judge(self):
        desk = self.desk_with(STAR)
        self.assertEqual(desk.say("judge 0/1"), "net")
        self.assertEqual(desk.say("judge 1/2"), "sum 0")
        self.assertEqual(desk.say("judge 1/1 -1/1 -1/1 1/1"), "net")
        self.assertEqual(desk.say("judge 1/1 -1/1 -2/1 2/1"), "uneven 0 1")
        self.assertEqual(desk.say("judge 1/1 -1/1 -1/1 2/1"), "sum 1")
        self.assertEqual(desk.say("judge -1/1 1/1 1/1 -1/1"), "minor 0 1")
        crossed = "judge 1/1 0/1 -1/1 0/1 0/1 1/1 0/1 -1/1 -1/1 0/1 1/1 0/1 0/1 -1/1 0/1 1/1"
        self.assertEqual(desk.say(crossed), "minor 0 1 3 2")
        self.assertEqual(desk.say("judge" + " 0/1" * 36), "net")
        self.assertEqual(desk.say("judge" + " 0/1" * 34 + " 7/3 0/1"), "uneven 4 5")
        self.assertEqual(desk.say("judge" + " 0/1" * 35 + " 1/3"), "sum 5")
        for size in (1, 4, 9, 16, 25, 36):
            self.assertEqual(desk.say("judge" + " 0/1" * size), "net")
        self.assertEqual(desk.say("show"), STAR_TEXT)
        for net in SAMPLES:
            self.assertEqual(desk.say("judge " + grid_shown(answer_table(net)).replace("\n", " ")), "net")

    def test_runs_of_three(self):
        # Three wires across, each through the two others: told first are the runs of two.
        rows = [["0/1"] * 6 for row in range(6)]
        for i in range(6):
            rows[i][i] = "1/1"
            rows[i][(i + 3) % 6] = "-1/1"
        row = "judge " + " ".join(" ".join(entries) for entries in rows)
        self.assertEqual(Desk().say(row), "minor 0 1 4 3")

    def test_no_row(self):
        desks = [Desk(), self.desk_with(STAR), self.desk_with(TWINS)]
        for row in NO_ROWS:
            with self.subTest(row=row):
                for desk in desks:
                    self.refused(NoRow, desk, row)

    # A row is split at each blank: a name without signs is told to the deed, which refuses it in its own way.
    def test_words_without_signs(self):
        pairs = [
            ("cut ", NoWire), ("weigh  1/2", NoWire), ("loop ", NoStep), ("dead ", NoStep), ("chain ", NoStep),
            ("star ", NoStep), ("twins  ", NoStep), ("twins 1 ", NoStep), ("twins  1", NoStep), ("ring    ", NoStep),
            ("ring 1 2 3 ", NoStep), ("ring  1 2 3", NoStep), ("ring 1  2 n", NoStep), ("ring 1 2  n", NoStep),
            ("lay  0 a 0 w 1/2", NoCorner), ("lay a 0  0 w 1/2", NoCorner), ("lay  0  0  1/2", NoCorner),
            ("lay a 0 a 0  1/2", Taken), ("lay a 0 a 9  1/2", NoCorner), ("lay a 0 a 0  1001/1", Taken),
            ("grow  0 w 1/2 n", NoCorner), ("grow a 0  1/2 n", Taken), ("grow a 0 w 1/2 ", Taken), ("grow a 0  1/2 ", Taken),
            ("grow a 0 w 1001/1 ", Taken),
        ]
        for row, refusal in pairs:
            for net in (ONE_POST, STAR, TWINS, TRIANGLE):
                with self.subTest(row=row, net=net):
                    self.refused(refusal, self.desk_with(net), row)
        self.refused(NoRegion, self.desk_with(STAR), "lay a 0 c 1  1/2")
        full = self.desk_with(STAR)
        for number in range(12):
            full.say("lay a 0 a 0 w%d 1/1" % number)
        self.refused(Taken, full, "lay a 0 a 0  1/2")
        self.refused(Taken, full, "grow a 0 w 1/2 ")

    # Ahead of a worth two blanks, at a net with names of eight signs.
    def test_long_names_and_two_blanks(self):
        rows = [
            "arjmu0or arjmu0or arjm90or arjmg0or arjm10or arjm10or arjm80or arjmn0or arjmn0or arjmg0or arjm90or",
            "arjm90or arjmu0or", "arjmg0or", "arjm10or arjm80or", "arjmn0or",
        ]
        worths = {
            "arjm10or": (3, 2), "arjm80or": (5, 2), "arjm90or": (5, 2), "arjmg0or": (222, 1), "arjmn0or": (6, 1),
            "arjmu0or": (5, 1),
        }
        desk = self.desk_with(told("arjm90or arjmg0or arjmn0or arjmu0or", rows, worths))
        self.refused(Taken, desk, "lay arjmu0or 9 arjmu0or 2  2/425")
        self.refused(NoRow, desk, "lay arjmu0or 9 arjmu0or 2 2/425")
        self.refused(NoRow, desk, "lay arjmu0or 9 arjmu0or 2  w 2/425")

    def test_rows_of_all_sorts_of_words(self):
        dice = random.Random(156)
        seen = {}
        for number in range(6000):
            net = dice.choice([ONE_POST, STAR, TWINS, TRIANGLE, LOOP_WITHIN])
            word = dice.choice(sorted(DEEDS_BY_WORDS))
            words = [word] + [dice.choice(WORDS_TRIED[kind]) for kind in DEEDS_BY_WORDS[word]]
            if dice.randrange(8) == 0:
                words.insert(dice.randrange(len(words) + 1), "")
            row = " ".join(words)
            deed = deed_by_words(row)
            desk = self.desk_with(net)
            try:
                asked = NoRow if deed is None else net_shown(deed_done(net, deed))
            except RimError as refusal:
                asked = refusal.__class__
            if isinstance(asked, str):
                self.assertEqual(desk.say(row), "ok", row)
                self.assertEqual(desk.say("show"), asked)
                seen["ok"] = True
            else:
                self.refused(asked, desk, row)
                seen[asked] = True
        for answer in ("ok", NoRow, NoCorner, NoRegion, Taken, NoWire, NoStep):
            self.assertIn(answer, seen)

    # NoRow comes ahead of what the names would be refused with; else each refusal has its own class.
    def test_no_row_first(self):
        desk = self.desk_with(STAR)
        pairs = [
            ("lay x 0 a 0 w {}", NoCorner), ("lay a 0 a 9 w {}", NoCorner), ("lay a 0 c 1 w {}", NoRegion),
            ("lay a 0 b 1 W {}", Taken), ("lay a 0 b 1 1 {}", Taken), ("grow x 0 w {} n", NoCorner),
            ("grow a 0 1 {} n", Taken), ("grow a 0 w {} a", Taken), ("grow a 0 w {} N", Taken), ("weigh w {}", NoWire),
        ]
        for row, refusal in pairs:
            self.refused(refusal, desk, row.replace("{}", "1/2"))
            for worth in ("2/4", "1", "0/1", "-1/2", "01/2"):
                self.refused(NoRow, desk, row.replace("{}", worth))
        self.refused(NoRow, desk, "lay x 00 y 0 W 1/1")
        self.refused(NoRow, desk, "lay x 0 y 01 W 1/1")
        self.refused(NoRow, desk, "grow x 01 W 1/1 N")
        self.refused(NoRow, desk, "grow x 0 W 1/1 N N")

    def test_refused_deeds(self):
        desk = self.desk_with(STAR)
        self.refused(NoCorner, desk, "lay a 99999999999999999999999999 a 0 w 1/1")
        self.refused(NoWorth, desk, "lay a 0 b 1 w 1001/1")
        self.refused(NoWorth, desk, "grow a 0 w 1/1001 n")
        self.refused(NoWorth, desk, "weigh 1 1001/1000")
        self.refused(NoWire, desk, "cut w")
        for row in ("loop 1", "dead 1", "chain m", "twins 1 2", "star a", "star x", "ring 1 2 3 n", "loop x", "dead A-"):
            self.refused(NoStep, desk, row)
        for number in range(12):
            desk.say("lay a 0 a 0 w%d 1/1" % number)
        self.refused(TooMany, desk, "lay a 0 a 0 w 1/1")
        self.refused(TooMany, desk, "grow a 0 w 1/1 n")

    def test_ten_points_within(self):
        desk = self.desk_with(TRIANGLE)
        for number in range(10):
            self.assertEqual(desk.say("grow a 0 w%d 1/1 m%d" % (number, number)), "ok")
        self.refused(TooMany, desk, "grow a 0 w 1/1 n")
        self.refused(TooMany, desk, "ring 1 2 3 n")
        self.refused(NoStep, desk, "ring 1 2 w1 n")
        self.assertEqual(desk.say("cut w7"), "ok")
        self.assertEqual(desk.say("ring 1 2 3 n"), "ok")

    def test_desks_keep_their_own(self):
        one = Desk()
        other = Desk()
        one.say("grow a 0 w 1/2 m")
        self.assertEqual(other.say("show"), "rim a\nat a")
        self.assertEqual(Desk().say("show"), "rim a\nat a")

    # A net's text that was told may be told again, with worths of many figures.
    def test_there_and_back(self):
        for net in full_nets(random.Random(155), 3):
            desk = self.desk_with(net)
            for step in range(6):
                stars = [point for point, wires in net[1] if point not in net[0] and len(wires) == 3]
                if stars:
                    self.assertEqual(desk.say("star " + stars[0]), "ok")
                net = net_read(desk.say("show"))
            again = self.desk_with(net)
            self.assertEqual(again.say("table"), desk.say("table"))
            self.assertEqual(again.say("judge " + desk.say("table").replace("\n", " ")), "net")


if __name__ == "__main__":
    unittest.main()
