"""Points 5, 6 and 7: fractions and their texts."""

import itertools
import re
import unittest
from fractions import Fraction
from math import gcd

from tests.kit import plain, r, rs, seeded
from unbent.errors import InvalidNumber, TooLarge, ZeroDenominator
from unbent.ratios import (
    add, compare, divide, dot, floor_of, greatest_index, is_ratio, least_index, make, multiply, negate,
    read_ratio, show_ratio, sign, subtract, total,
)

LONG = 10 ** 59 + 7


def some_ratios(many=60, seed=1, most=30):
    source = seeded(seed)
    return [make(source.randint(-most, most), source.randint(1, most)) for _ in range(many)]


class Examples(unittest.TestCase):
    def test_of_the_interface(self):
        self.assertEqual((make(6, -4), add((1, 2), (1, 3)), floor_of((-3, 2))), ((-3, 2), (5, 6), -2))
        shown = show_ratio((-3, 2)), read_ratio("10/3"), dot([(1, 2), (2, 1)], [(4, 1)])
        self.assertEqual(shown, ("-3/2", (10, 3), (2, 1)))
        with self.assertRaises(InvalidNumber):
            read_ratio("2/4")
        with self.assertRaises(ZeroDenominator):
            divide((1, 2), (0, 1))


class Make(unittest.TestCase):
    def test_small_numbers(self):
        for p in range(-12, 13):
            for q in [*range(-12, 0), *range(1, 13)]:
                found = make(p, q)
                self.assertTrue(is_ratio(found))
                self.assertEqual(plain(found), Fraction(p, q))

    def test_long_numbers(self):
        for p, q in [(LONG, 3), (-LONG, LONG), (LONG * 6, -LONG * 4), (6, 4 * LONG), (0, -LONG)]:
            found = make(p, q)
            self.assertTrue(is_ratio(found))
            self.assertEqual(plain(found), Fraction(p, q))
        self.assertEqual(make(LONG * 6, -LONG * 4), (-3, 2))

    def test_one_argument(self):
        self.assertEqual((make(5), make(-LONG), make(0)), ((5, 1), (-LONG, 1), (0, 1)))
        self.assertEqual(make(p=4, q=6), (2, 3))

    def test_zero_below(self):
        for p in (0, 1, -LONG):
            with self.assertRaises(ZeroDenominator):
                make(p, 0)


class IsRatio(unittest.TestCase):
    def test_fractions(self):
        for value in [(0, 1), (1, 1), (-3, 2), (LONG, 10), (5, 7)]:
            self.assertIs(is_ratio(value), True, value)

    def test_everything_else(self):
        values = [
            (2, 4), (0, 2), (0, 0), (1, 0), (1, -2), (-1, -1), (3, -1), (True, 1), (1, True), (False, 1),
            (0, False), [1, 2], (1, 2, 3), (1,), (), "1/2", "12", 1, 0, None, True, 1.5, (1.0, 2), (1, 2.0),
            ("1", 2), (None, 1), ((1, 1), 1), {}, {1: 2}, {1, 2}, b"12", object(), is_ratio, Fraction(1, 2),
            range(2),
        ]
        for value in values:
            self.assertIs(is_ratio(value), False, value)

    def test_exactly_those_in_lowest_terms(self):
        for p in range(-9, 10):
            for q in range(-9, 10):
                self.assertEqual(is_ratio((p, q)), q > 0 and gcd(p, q) == 1)


class Arithmetic(unittest.TestCase):
    def test_against_python(self):
        values = some_ratios(30, 2) + [(0, 1), (LONG, 9), (-1, LONG)]
        for a in values:
            self.assertEqual(plain(negate(a)), -plain(a))
            self.assertEqual(sign(a), (plain(a) > 0) - (plain(a) < 0))
            self.assertEqual(floor_of(a), plain(a) // 1)
            for b in values:
                self.assertEqual(plain(add(a, b)), plain(a) + plain(b))
                self.assertEqual(plain(subtract(a, b)), plain(a) - plain(b))
                self.assertEqual(plain(multiply(a, b)), plain(a) * plain(b))
                self.assertEqual(compare(a, b), (plain(a) > plain(b)) - (plain(a) < plain(b)))
                for item in (add(a, b), subtract(a, b), multiply(a, b), negate(a)):
                    self.assertTrue(is_ratio(item))
                if b != (0, 1):
                    self.assertEqual(plain(divide(a, b)), plain(a) / plain(b))
                    self.assertTrue(is_ratio(divide(a, b)))

    def test_division_by_zero(self):
        for a in [(0, 1), (1, 1), (-5, 3)]:
            with self.assertRaises(ZeroDenominator):
                divide(a, (0, 1))

    def test_both_sides_of_zero(self):
        self.assertEqual([floor_of(r(k, 2)) for k in range(-4, 5)], [-2, -2, -1, -1, 0, 0, 1, 1, 2])
        self.assertEqual([sign(r(k, 3)) for k in (-3, -1, 0, 1, 3)], [-1, -1, 0, 1, 1])
        self.assertEqual(compare((-1, 2), (-1, 3)), -1)
        self.assertEqual(compare((-1, 3), (-1, 2)), 1)
        self.assertEqual(compare((7, 3), (7, 3)), 0)
        self.assertEqual(compare((-1, 9), (1, 9)), -1)


class Facts(unittest.TestCase):
    def test_order_and_grouping(self):
        source = seeded(3)
        values = some_ratios(40, 3)
        for _ in range(300):
            a, b, c = source.choice(values), source.choice(values), source.choice(values)
            self.assertEqual(add(a, b), add(b, a))
            self.assertEqual(add(a, add(b, c)), add(add(a, b), c))
            self.assertEqual(multiply(a, b), multiply(b, a))
            self.assertEqual(multiply(a, multiply(b, c)), multiply(multiply(a, b), c))
            self.assertEqual(multiply(a, add(b, c)), add(multiply(a, b), multiply(a, c)))

    def test_undoing(self):
        for a in some_ratios(25, 4):
            for b in some_ratios(25, 5):
                self.assertEqual(subtract(add(a, b), b), a)
                if b[0] != 0:
                    self.assertEqual(divide(multiply(a, b), b), a)

    def test_order_is_kept(self):
        source = seeded(6)
        values = some_ratios(40, 6)
        for _ in range(300):
            a, b, c = source.choice(values), source.choice(values), source.choice(values)
            self.assertEqual(compare(add(a, c), add(b, c)), compare(a, b))
            if sign(c) > 0:
                self.assertEqual(compare(multiply(a, c), multiply(b, c)), compare(a, b))

    def test_reading_what_was_written(self):
        edge = 10 ** 12 - 1
        for a in some_ratios(60, 7) + [(0, 1), (edge, 1), (-edge, 1), (1, edge), (-edge, edge - 1)]:
            self.assertEqual(read_ratio(show_ratio(a)), a)


class Lists(unittest.TestCase):
    def test_total_and_dot(self):
        first, second = some_ratios(60, 8), some_ratios(60, 9)
        before = list(first), list(second)
        self.assertEqual(plain(total(first)), sum(map(plain, first)))
        self.assertEqual(plain(dot(first, second)), sum(plain(a) * plain(b) for a, b in zip(first, second)))
        self.assertEqual((first, second), before)
        self.assertEqual((total([]), dot([], []), dot(first, [])), ((0, 1), (0, 1), (0, 1)))
        self.assertEqual(total([(1, 2), (-1, 2)]), (0, 1))

    def test_lists_of_different_lengths(self):
        first, second = rs(1, 2, 3), rs(4, 5)
        self.assertEqual(dot(first, second), (14, 1))
        self.assertEqual(dot(second, first), (14, 1))

    def test_least_and_greatest(self):
        self.assertEqual((least_index([]), greatest_index([])), (None, None))
        self.assertEqual((least_index(rs(5)), greatest_index(rs(5))), (0, 0))
        values = [(1, 2), (-1, 3), (2, 3), (-1, 3), (2, 3), (0, 1)]
        before = list(values)
        self.assertEqual((least_index(values), greatest_index(values)), (1, 2))
        self.assertEqual(values, before)
        self.assertEqual((least_index(rs(4, 4, 4)), greatest_index(rs(4, 4, 4))), (0, 0))
        for seed in range(20):
            values = some_ratios(60, seed, 6)
            amounts = [plain(a) for a in values]
            self.assertEqual(least_index(values), amounts.index(min(amounts)))
            self.assertEqual(greatest_index(values), amounts.index(max(amounts)))


class Texts(unittest.TestCase):
    def test_texts_that_are_read(self):
        for text, value in [
            ("0", (0, 1)), ("7", (7, 1)), ("-7", (-7, 1)), ("1/2", (1, 2)), ("-10/3", (-10, 3)),
            ("999999999999", (999999999999, 1)), ("-999999999999/999999999998", (-999999999999, 999999999998)),
            ("1/999999999999", (1, 999999999999)), ("100", (100, 1)), ("1/10", (1, 10)),
        ]:
            self.assertEqual(read_ratio(text), value)
            self.assertEqual(show_ratio(value), text)

    def test_texts_that_are_not_read(self):
        for text in [
            "", "-", "/", "-/", "00", "01", "-01", "1/02", "01/2", "+1", "+", "1/+2", " 1", "1 ", "1 /2", "1/ 2",
            "- 1", "--1", "1-", "1/-2", "-1/-2", "-0", "0/1", "-0/1", "0/2", "3/1", "-3/1", "3/0", "0/0",
            "2/4", "6/3", "-3/9", "1/2/3", "1//2", "1/", "/2", "-/2", "1000000000000", "-1000000000000",
            "1/1000000000000", "1000000000000/7", "0000000000001", "1.5", "1e3", "1_0", "a", "x1", "1x", "1\n",
            "\n1", "\t1", "1/2\n", "\u0661", "\u00b2", "1/\u00b2", "\uff11", "None", "1,5", "\u22121", "0x1",
        ]:
            with self.subTest(text), self.assertRaises(InvalidNumber) as caught:
                read_ratio(text)
            self.assertEqual(caught.exception.text, text)

    def test_a_long_text(self):
        for text in ["9" * 6000, "-" + "9" * 6000, "1/" + "7" * 6000]:
            with self.assertRaises(InvalidNumber):
                read_ratio(text)

    def test_all_short_texts(self):
        letters = "0123-/ +"
        for many in range(5):
            for parts in itertools.product(letters, repeat=many):
                text = "".join(parts)
                form = re.fullmatch("(-?[0-9]+)(/[0-9]+)?", text)
                zero = form and form[2] and int(form[2][1:]) == 0
                if form and not zero and str(Fraction(text)) == text:
                    self.assertEqual(plain(read_ratio(text)), Fraction(text))
                else:
                    with self.assertRaises(InvalidNumber):
                        read_ratio(text)

    def test_writing_long_numbers(self):
        most = 10 ** 1000 - 1
        self.assertEqual(show_ratio((most, 1)), "9" * 1000)
        self.assertEqual(show_ratio((-most, 1)), "-" + "9" * 1000)
        self.assertEqual(show_ratio((1, most)), "1/" + "9" * 1000)
        for value in [(most + 1, 1), (-most - 1, 1), (1, most + 1), (7, 10 ** 6000), (10 ** 6000 + 1, 10)]:
            with self.assertRaises(TooLarge):
                show_ratio(value)


if __name__ == "__main__":
    unittest.main()
