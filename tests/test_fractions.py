import math
import random
import unittest
from fractions import Fraction

from rimread.errors import NoWorth
from rimread.fractions import fraction, is_worth, less, minus, over, plus, times

SIXTY = 10 ** 60 - 1


def pair(number):
    return (number.numerator, number.denominator)


def some_fractions():
    dice = random.Random(4)
    found = [Fraction(0), Fraction(1), Fraction(-1), Fraction(1, 2), Fraction(-1, 2), Fraction(7), Fraction(2, 4)]
    found += [Fraction(dice.randint(-9, 9), dice.randint(1, 9)) for k in range(8)]
    found += [Fraction(dice.randint(-SIXTY, SIXTY), dice.randint(1, SIXTY)) for k in range(8)]
    found += [Fraction(SIXTY, 1), Fraction(-SIXTY, SIXTY - 1), Fraction(1, SIXTY)]
    return found


class FractionTest(unittest.TestCase):
    def check(self, told, right):
        self.assertIs(type(told), tuple)
        self.assertEqual(told, right)
        self.assertEqual([type(part) for part in told], [int, int])

    def test_lowest_terms(self):
        self.check(fraction(6, 4), (3, 2))
        self.check(fraction(4, 6), (2, 3))
        self.check(fraction(3, 2), (3, 2))
        self.check(fraction(8, 4), (2, 1))
        self.check(fraction(5, 1), (5, 1))
        self.check(fraction(7, 7), (1, 1))
        self.check(fraction(17, 51), (1, 3))

    def test_signs(self):
        self.check(fraction(-6, 4), (-3, 2))
        self.check(fraction(6, -4), (-3, 2))
        self.check(fraction(-6, -4), (3, 2))
        self.check(fraction(-1, -1), (1, 1))

    def test_nought(self):
        for bottom in (1, -1, 5, -5, SIXTY, -SIXTY):
            self.check(fraction(0, bottom), (0, 1))

    def test_sixty_figures(self):
        self.check(fraction(SIXTY, SIXTY), (1, 1))
        self.check(fraction(SIXTY, -SIXTY), (-1, 1))
        self.check(fraction(SIXTY, SIXTY - 1), (SIXTY, SIXTY - 1))
        dice = random.Random(1)
        for k in range(50):
            divisor = dice.randint(1, 10 ** dice.randint(1, 50))
            top = dice.randint(-SIXTY, SIXTY) // divisor * divisor
            bottom = dice.randint(divisor, SIXTY) // divisor * divisor * dice.choice([1, -1])
            self.check(fraction(top, bottom), pair(Fraction(top, bottom)))

    def test_many_more_figures(self):
        dice = random.Random(2)
        for sizes in ((9000, 9000, 1), (9000, 9000, 9000), (30000, 8500, 40), (8500, 30000, 40), (20000, 20000, 9000)):
            divisor = dice.getrandbits(sizes[2]) | 1
            top = dice.getrandbits(sizes[0]) * divisor
            bottom = (dice.getrandbits(sizes[1]) | 1) * divisor
            shared = math.gcd(top, bottom)
            self.check(fraction(-top, bottom), (-top // shared, bottom // shared))

    def test_long_neighbours(self):
        long = 1 << 20000
        self.check(fraction(long, long), (1, 1))
        self.check(fraction(long + 1, long), (long + 1, long))
        self.check(fraction(long, long + 1), (long, long + 1))
        self.check(fraction(long * 3, long * 6), (1, 2))
        self.check(fraction(long - 1, (long - 1) * (long + 1)), (1, long + 1))

    def test_bottom_nought_is_refused(self):
        for top in (0, 1, -1, 5, SIXTY):
            with self.subTest(top=top):
                with self.assertRaises(NoWorth):
                    fraction(top, 0)


class ReckoningTest(unittest.TestCase):
    def test_written_out(self):
        self.assertEqual(plus((1, 2), (1, 3)), (5, 6))
        self.assertEqual(plus((1, 2), (1, 2)), (1, 1))
        self.assertEqual(plus((1, 2), (-1, 2)), (0, 1))
        self.assertEqual(minus((1, 2), (1, 3)), (1, 6))
        self.assertEqual(minus((1, 3), (1, 2)), (-1, 6))
        self.assertEqual(minus((5, 7), (5, 7)), (0, 1))
        self.assertEqual(times((2, 3), (3, 4)), (1, 2))
        self.assertEqual(times((-2, 3), (3, 2)), (-1, 1))
        self.assertEqual(times((0, 1), (-3, 2)), (0, 1))
        self.assertEqual(over((1, 2), (3, 4)), (2, 3))
        self.assertEqual(over((3, 4), (1, 2)), (3, 2))
        self.assertEqual(over((1, 2), (-3, 4)), (-2, 3))
        self.assertEqual(over((0, 1), (-3, 4)), (0, 1))

    def test_as_numbers_are(self):
        for one in some_fractions():
            for other in some_fractions():
                with self.subTest(one=one, other=other):
                    self.assertEqual(plus(pair(one), pair(other)), pair(one + other))
                    self.assertEqual(minus(pair(one), pair(other)), pair(one - other))
                    self.assertEqual(times(pair(one), pair(other)), pair(one * other))
                    if other != 0:
                        self.assertEqual(over(pair(one), pair(other)), pair(one / other))
                    self.assertIs(less(pair(one), pair(other)), one < other)

    def test_told_are_tuples(self):
        for reckoning in (plus, minus, times, over):
            self.assertIs(type(reckoning((1, 2), (2, 3))), tuple)

    def test_by_nought_is_refused(self):
        for one in ((0, 1), (1, 1), (-1, 2), (SIXTY, 1)):
            with self.subTest(one=one):
                with self.assertRaises(NoWorth):
                    over(one, (0, 1))

    def test_less_both_ways_round(self):
        self.assertIs(less((1, 3), (1, 2)), True)
        self.assertIs(less((1, 2), (1, 3)), False)
        self.assertIs(less((1, 2), (1, 2)), False)
        self.assertIs(less((0, 1), (0, 1)), False)
        self.assertIs(less((-1, 2), (-1, 3)), True)
        self.assertIs(less((-1, 3), (-1, 2)), False)
        self.assertIs(less((-5, 1), (1, 9)), True)
        self.assertIs(less((1, 9), (-5, 1)), False)
        self.assertIs(less((SIXTY - 1, SIXTY), (SIXTY, SIXTY - 1)), True)
        self.assertIs(less((SIXTY, SIXTY - 1), (SIXTY - 1, SIXTY)), False)

    def test_told_ones_are_handed_in_again(self):
        told = (1, 1)
        right = Fraction(1)
        dice = random.Random(3)
        for k in range(40):
            number = Fraction(dice.randint(1, SIXTY), dice.randint(1, SIXTY))
            told = times(minus(told, pair(number)), pair(number))
            right = (right - number) * number
            self.assertEqual(told, pair(right))


class WorthTest(unittest.TestCase):
    def test_worths(self):
        for thing in ((1, 1), (1, 2), (3, 2), (1000, 999), (SIXTY, 1), (1, SIXTY), (SIXTY, SIXTY - 1)):
            with self.subTest(thing=thing):
                self.assertIs(is_worth(thing), True)

    def test_told_fractions(self):
        for number in some_fractions():
            self.assertIs(is_worth(fraction(number.numerator, number.denominator)), number > 0)

    def refuse(self, things):
        for thing in things:
            with self.subTest(thing=thing):
                self.assertIs(is_worth(thing), False)

    def test_nought_and_below(self):
        self.refuse([(0, 1), (-1, 1), (-1, 2), (-SIXTY, 1)])

    def test_not_in_lowest_terms(self):
        self.refuse([(2, 2), (2, 4), (6, 3), (0, 2), (-2, 4), (SIXTY, SIXTY), (2 * SIXTY, 3 * SIXTY)])

    def test_bottom_nought_or_below(self):
        self.refuse([(1, 0), (0, 0), (-1, 0), (1, -1), (-1, -1), (-1, -2), (1, -2), (0, -1)])

    def test_other_lengths(self):
        self.refuse([(), (1,), (1, 1, 1), (1, 2, 3), ((1, 2),), (1, 2, None)])

    def test_other_kinds_in_a_part(self):
        for part in (True, False, None, "", "1", "a", [], [1], (), (1,), (1, 1), [[1]], ((1, 1), (1, 1))):
            self.refuse([(part, 1), (1, part), (part, part), (part, 2), (2, part)])

    def test_a_list_in_the_stead_of_the_tuple(self):
        self.refuse([[1, 1], [1, 2], [], [1], [[1, 1]], [(1, 1)], [(1, 1), (1, 1)], [[1, 2], [1, 2]]])

    def test_other_things(self):
        self.refuse([0, 1, -1, SIXTY, True, False, None, "", "1", "1/1", "(1, 1)", "ab"])

    def test_nested(self):
        self.refuse([((1, 1), (1, 1)), ((1, 1), 1), (1, (1, 1)), [[[1, 1]]], (((1, 1),),), ([], []), ([1], [1])])
        self.refuse([(None, None), ("a", "b"), [None, "a", [True, (1, 2)]], ((True, 1), [None])])
        deep = (1, 1)
        for k in range(5000):
            deep = (deep, 1)
        self.assertIs(is_worth(deep), False)


if __name__ == "__main__":
    unittest.main()
