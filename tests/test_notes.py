import copy
import random
import unittest

from plates import EDGE, ONE_POST, SAMPLES, SIX_POSTS, STAR, full_nets, grown_nets, lean_nets, renamed
from plates import some_fraction, spoil, turned_about, wholes
from rimread.answers import answer_table
from rimread.errors import NoText
from rimread.nets import vet
from rimread.notes import grid_shown, net_read, net_shown

STAR_TEXT = "rim a b c\nat a 1\nat b 2\nat c 3\nat m 1 2 3\nwire 1 1/1\nwire 2 2/1\nwire 3 3/1"
# Posts, rows and worths that no vetting lets by.
NO_NETS = [
    (["a"], [], []),
    (["a", "a"], [("a", []), ("a", ["w"])], []),
    (["a"], [("b", ["w", "w", "w"]), ("b", [])], [("z", (1, 2)), ("a", (2, 1)), ("a", (2, 1))]),
    (["a", "b"], [("m", [])], []),
    (["rim", "at", "wire"], [("at", ["wire", "rim"]), ("wire", ["at"])], [("at", (1, 1)), ("wire", (10 ** 70, 7))]),
    (["a"], [("p%d" % number, ["w%d" % number]) for number in range(40)], []),
    (["a"], [], [("w%d" % number, (number + 1, 1)) for number in range(40)]),
]
# Each with what is wrong with it.
WRONG = {
    "no sign": "",
    "no rim": "at a\nwire w 1/1",
    "no rim either": "a b c\nat a",
    "a rim without posts": "rim",
    "a rim without posts, with a row": "rim\nat a",
    "seven posts": "rim a b c d e f g",
    "two rims": "rim a\nrim a",
    "a rim behind": "at a\nrim a",
    "a wire ahead of a point": "rim a\nwire w 1/1\nat a w w",
    "a point between wires": "rim a\nat a\nwire v 1/1\nat b\nwire w 1/1",
    "another word": "rim a\npoint a",
    "another word behind": "rim a\nat a\nwire w 1/1\nend",
    "a word in great letters": "RIM a",
    "a row of great letters": "rim a\nAt a",
    "two blanks": "rim  a",
    "two blanks at a point": "rim a\nat  a",
    "two blanks at a wire": "rim a\nwire w  1/1",
    "two blanks between wires": "rim a\nat a w  w",
    "a blank ahead": " rim a",
    "a blank behind": "rim a ",
    "a blank ahead of a row": "rim a\n at a",
    "a blank behind a row": "rim a\nat a \nwire w 1/1",
    "a blank at the end": "rim a\nat a w w\nwire w 1/1 ",
    "a line feed ahead": "\nrim a",
    "a line feed behind": "rim a\n",
    "a line feed at the end": "rim a\nat a w w\nwire w 1/1\n",
    "two line feeds": "rim a\n\nat a",
    "a point without a name": "rim a\nat",
    "a wire without a name": "rim a\nwire",
    "a wire without a worth": "rim a\nwire w",
    "a wire with a word too many": "rim a\nwire w 1/1 2/1",
    "a worth with blanks": "rim a\nwire w 1 / 1",
    "a name of nine signs": "rim abcdefghi",
    "a name with a great letter": "rim A",
    "a name of a point": "rim a\nat b-c",
    "a name of a wire at a point": "rim a\nat a w_",
    "a name of a wire": "rim a\nwire W 1/1",
    "a long name of a wire": "rim a\nwire 123456789 1/1",
    "a tab": "rim\ta",
    "a carriage return": "rim a\r\nat a",
    "a worth with a nought ahead": "rim a\nwire w 01/2",
    "a bottom with a nought ahead": "rim a\nwire w 1/02",
    "a worth of nought": "rim a\nwire w 0/1",
    "a bottom of nought": "rim a\nwire w 1/0",
    "a worth below 0": "rim a\nwire w -1/2",
    "a bottom below 0": "rim a\nwire w 1/-2",
    "both below 0": "rim a\nwire w -1/-2",
    "not in lowest terms": "rim a\nwire w 2/4",
    "a whole one not in lowest terms": "rim a\nwire w 4/2",
    "a sign": "rim a\nwire w +1/2",
    "a sign at the bottom": "rim a\nwire w 1/+2",
    "no stroke": "rim a\nwire w 1",
    "two strokes": "rim a\nwire w 1/2/3",
    "no top": "rim a\nwire w /2",
    "no bottom": "rim a\nwire w 1/",
    "a stroke alone": "rim a\nwire w /",
    "a point in a number": "rim a\nwire w 0.5/1",
    "an underscore in a number": "rim a\nwire w 1_0/3",
    "figures of another script": "rim a\nwire w \u0661/2",
}


class NotesTest(unittest.TestCase):
    def there_and_back(self, net):
        kept = copy.deepcopy(net)
        text = net_shown(net)
        self.assertEqual(net, kept)
        self.assertIsInstance(text, str)
        back = net_read(text)
        self.assertEqual(back, net)
        self.assertIsInstance(back, tuple)
        self.assertEqual([kind.__class__ for kind in back], [list, list, list])
        return text

    def test_to_the_letter(self):
        self.assertEqual(net_shown(ONE_POST), "rim a\nat a")
        self.assertEqual(net_shown(EDGE), "rim a b\nat a w\nat b w\nwire w 2/3")
        self.assertEqual(net_shown(STAR), STAR_TEXT)
        self.assertEqual(net_read(STAR_TEXT), STAR)
        self.assertEqual(net_shown(SIX_POSTS), "rim a b c d e f\nat a\nat b\nat c\nat d\nat e\nat f")

    def test_there_and_back(self):
        dice = random.Random(121)
        nets = SAMPLES + grown_nets(dice, 60) + lean_nets(dice, 40) + full_nets(dice, 4)
        for net in nets + [renamed(dice, net, True) for net in nets]:
            self.there_and_back(net)
            self.assertTrue(vet(net_read(net_shown(net))))

    def test_no_nets_there_and_back(self):
        for net in NO_NETS:
            text = self.there_and_back(net)
            self.assertEqual(net_shown(net_read(text)), text)

    def test_one_to_six_posts(self):
        for count in range(1, 7):
            posts = list("abcdef")[:count]
            self.assertEqual(net_read("rim " + " ".join(posts)), (posts, [], []))

    def test_a_point_without_wires(self):
        self.assertEqual(net_read("rim a\nat m\nat a"), (["a"], [("m", []), ("a", [])], []))

    def test_names_of_all_signs(self):
        self.assertEqual(net_read("rim z09az09a\nat 0 1 a"), (["z09az09a"], [("0", ["1", "a"])], []))

    def test_worths_of_many_figures(self):
        for length in (3, 60, 300, 4299, 4301, 9000):
            worth = (10 ** length, 10 ** length + 1)
            text = self.there_and_back((["a"], [("a", ["w", "w"])], [("w", worth)]))
            self.assertEqual(text, "rim a\nat a w w\nwire w 1%s/1%s1" % ("0" * length, "0" * (length - 1)))
        dice = random.Random(122)
        for net in full_nets(dice, 3):
            self.there_and_back(turned_about(dice, net, 20))

    def test_wrong_texts(self):
        for fault, text in WRONG.items():
            with self.subTest(fault=fault):
                with self.assertRaises(NoText):
                    net_read(text)

    # Any text with one sign more, less or changed is refused, or writes what was read of it.
    def test_texts_somewhat_changed(self):
        dice = random.Random(123)
        refused = 0
        for turn in range(3000):
            text = net_shown(dice.choice(SAMPLES))
            place = dice.randrange(len(text) + 1)
            instead = dice.choice(["", " ", "\n", "/", "0", "1", "a", "-", "at", "\nat b", "\nwire w 1/2", "A"])
            text = text[:place] + instead + text[place + dice.randint(0, 1):]
            try:
                net = net_read(text)
            except NoText:
                refused += 1
            else:
                self.assertEqual(net_shown(net), text)
        self.assertGreater(refused, 1000)
        self.assertLess(refused, 2900)

    def test_what_is_told_is_new(self):
        spoil(net_read(STAR_TEXT))
        self.assertEqual(net_read(STAR_TEXT), STAR)


class GridShownTest(unittest.TestCase):
    def test_to_the_letter(self):
        grid = [[(2, 1), (-7, 3)], [(0, 1), (10, 9)]]
        kept = copy.deepcopy(grid)
        self.assertEqual(grid_shown(grid), "2/1 -7/3\n0/1 10/9")
        self.assertEqual(grid, kept)
        self.assertEqual(grid_shown([[(-5, 1)]]), "-5/1")
        self.assertEqual(grid_shown([[(1, 2), (3, 4), (5, 6)]]), "1/2 3/4 5/6")
        self.assertEqual(grid_shown([[(1, 2)], [(3, 4)]]), "1/2\n3/4")

    def test_no_rows_and_rows_of_none(self):
        self.assertEqual(grid_shown([]), "")
        self.assertEqual(grid_shown([[]]), "")
        self.assertEqual(grid_shown([[], [], []]), "\n\n")

    def test_tables(self):
        self.assertEqual(grid_shown(answer_table(STAR)), "5/6 -1/3 -1/2\n-1/3 4/3 -1/1\n-1/2 -1/1 3/2")
        self.assertEqual(grid_shown(wholes([[1, -1], [-1, 1]])), "1/1 -1/1\n-1/1 1/1")

    def test_many_figures(self):
        dice = random.Random(124)
        grid = [[some_fraction(dice, 10 ** 300) for column in range(4)] for row in range(3)]
        self.assertEqual(grid_shown(grid), "\n".join(" ".join("%d/%d" % entry for entry in row) for row in grid))
        self.assertEqual(grid_shown([[(-(10 ** 5000), 1)]]), "-1" + "0" * 5000 + "/1")


if __name__ == "__main__":
    unittest.main()
