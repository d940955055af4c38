"""[1.1] to [1.3], and what [0.1] to [0.5] ask of ratios."""

import random
from fractions import Fraction

from tests.support import Case, fraction, long_ratio, r, row, wrong_values
from worthstead.errors import InvalidRatio
from worthstead.exact.ratios import Ratio, is_ratio, mean, total

SIXTY = 10 ** 60 - 1


class MakingTest(Case):
    def test_lowest_terms(self):
        for top in range(-12, 13):
            for bottom in range(-12, 13):
                if bottom:
                    one, right = Ratio(top, bottom), Fraction(top, bottom)
                    self.assertEqual((one.top, one.bottom), (right.numerator, right.denominator))
        self.assertEqual((Ratio(0, -7).top, Ratio(0, -7).bottom, Ratio(5).bottom), (0, 1, 1))

    def test_sixty_digits(self):
        for number in (SIXTY, -SIXTY, 10 ** 59):
            self.assertEqual(Ratio(number).top, number)
            self.assertEqual(Ratio(1, number).bottom, abs(number))
        for number in (SIXTY + 1, -SIXTY - 1, 10 ** 99):
            self.number(number, Ratio, number)
            self.number(number, Ratio, 1, number)

    def test_wrong_numbers(self):
        for value in wrong_values():
            if type(value) is not int or abs(value) > SIXTY:
                self.number(value, Ratio, value)
                self.number(value, Ratio, 1, value)
        self.number(0, Ratio, 1, 0)
        self.number(0, Ratio, 0, 0)

    def test_the_first_error_decides(self):
        self.number(True, Ratio, True, 0)
        self.number(None, Ratio, None, None)

    def test_nothing_can_be_set(self):
        for name in ("top", "bottom"):
            with self.assertRaises(AttributeError):
                setattr(Ratio(1), name, 2)

    def test_is_ratio(self):
        self.assertIs(is_ratio(Ratio(0)), True)
        for value in wrong_values():
            self.assertIs(is_ratio(value), isinstance(value, Ratio))


class OperatorsTest(Case):
    def test_against_fractions(self):
        rng = random.Random(1)
        for _ in range(400):
            size = rng.choice((3, 20, 10 ** 20, SIXTY))
            one, other = [Ratio(rng.randint(-size, size), rng.randint(1, size)) for _ in range(2)]
            left, right = fraction(one), fraction(other)
            for made, wanted in ((one + other, left + right), (one - other, left - right), (one * other, left * right)):
                self.assertEqual((made.top, made.bottom), (wanted.numerator, wanted.denominator))
            self.assertEqual(fraction(-one), -left)
            self.assertEqual(fraction(abs(one)), abs(left))
            self.assertIs(one.is_less(other), left < right)
            self.assertIs(one == other, left == right)
            self.assertIs(bool(one), bool(left))
            if other:
                self.assertEqual(fraction(one.over(other)), left / right)

    def test_other_operands(self):
        for value in wrong_values():
            if not isinstance(value, Ratio):
                for act in (
                    lambda: Ratio(1) + value, lambda: Ratio(1) - value, lambda: Ratio(1) * value,
                    lambda: value + Ratio(1), lambda: value - Ratio(1), lambda: value * Ratio(1),
                    lambda: Ratio(1) < value, lambda: value >= Ratio(1),
                ):
                    with self.assertRaises(TypeError):
                        act()
                self.assertIs(Ratio(1) == value, False)
                self.assertIs(value == Ratio(1), False)
                self.assertIs(Ratio(1) != value, True)
                self.raises(InvalidRatio, Ratio(1).over, value)
                self.raises(InvalidRatio, Ratio(1).is_less, value)

    def test_no_order_and_no_members(self):
        for act in (
            lambda: Ratio(1) < Ratio(2), lambda: Ratio(1) >= Ratio(2), lambda: Ratio(1) / Ratio(2),
            lambda: Ratio(1) ** Ratio(2), lambda: Ratio(1) // Ratio(2), lambda: iter(Ratio(1)),
            lambda: 1 in Ratio(1), lambda: len(Ratio(1)), lambda: sum([Ratio(1)]),
        ):
            with self.assertRaises(TypeError):
                act()

    def test_dividing_by_zero(self):
        self.raises(ZeroDivisionError, Ratio(1).over, Ratio(0))
        self.raises(ZeroDivisionError, Ratio(0).over, Ratio(0))


class LongTest(Case):
    def test_two_thousand_digits(self):
        most = r("9" * 2000)
        self.assertEqual(len(str(most + Ratio(0))), 2000)
        self.too_many(2000, lambda: most + Ratio(1))
        self.too_many(2000, lambda: -most - Ratio(1))
        self.assertEqual(abs(-most), most)
        tiny = Ratio(1).over(most)
        self.assertEqual(len(str(tiny)), 2002)
        self.too_many(2000, lambda: tiny * Ratio(1, 10))
        self.too_many(2000, lambda: tiny.over(Ratio(10)))
        self.assertEqual(len(str(long_ratio(1000) * long_ratio(1001))), 2000)
        self.too_many(2000, lambda: long_ratio(1001) * long_ratio(1001))
        self.too_many(2000, lambda: long_ratio(1, 1001) * long_ratio(1, 1003))

    def test_only_what_is_returned_counts(self):
        one, other = long_ratio(2000, 1999), long_ratio(2000, 1997)
        self.assertEqual(one - one, Ratio(0))
        self.assertEqual(one.over(one), Ratio(1))
        self.assertIs(one.is_less(other), fraction(one) < fraction(other))
        self.assertEqual(total((one, other, -one)), other)
        self.assertEqual(total((one, other, long_ratio(1800, 1500), -other, -one)), long_ratio(1800, 1500))
        self.too_many(2000, lambda: one + other)
        self.too_many(2000, total, (one, other))
        self.too_many(2000, mean, (one, other))
        self.assertEqual(mean((one, -one)), Ratio(0))

    def test_a_mean_may_be_short_where_the_total_is_long(self):
        most = r("9" * 2000)
        self.too_many(2000, total, (most, most))
        self.assertEqual(mean((most, most)), most)
        self.assertEqual(mean((most,) * 7), most)
        self.assertEqual(total((most, most, -most)), most)

    def test_a_zero_divisor_is_told_ahead_of_length(self):
        self.raises(ZeroDivisionError, r("9" * 2000).over, Ratio(0))


class TextTest(Case):
    def test_texts(self):
        for text in ("0", "1", "-1", "10", "-10", "1/2", "-1/2", "12/35", "90/7"):
            self.assertEqual(str(Ratio.of_text(text)), text)
        for top in range(-20, 21):
            for bottom in range(1, 21):
                self.assertEqual(Ratio.of_text(str(Ratio(top, bottom))), Ratio(top, bottom))

    def test_what_cannot_stand(self):
        for text, spot in (
            ("", 0), ("-", 1), ("-0", 1), ("--1", 1), ("+1", 0), (" 1", 0), ("1 ", 1), ("00", 1), ("01", 1), ("0/1", 1),
            ("0/", 1), ("-0/3", 1), ("/2", 0), ("-/2", 1), ("1/", 2), ("-1/", 3), ("1/0", 2), ("1/-2", 2), ("1/02", 2),
            ("1//2", 2), ("1/2/3", 3), ("1/2 ", 3), ("1.5", 1), ("a", 0), ("1a", 1), ("1/a", 2), ("1/3a", 3), ("1-", 1),
            ("3/06", 2), ("1\n", 1), ("\n", 0), ("1/3-", 3), ("12/-", 3), ("?", 0), ("1_0", 1), ("1e3", 1), ("0x1", 1),
        ):
            with self.subTest(text=text):
                self.parse(spot, Ratio.of_text, text)

    def test_no_digits_of_other_scripts(self):
        self.parse(0, Ratio.of_text, "\u0663")
        self.parse(1, Ratio.of_text, "1\u00b2")

    def test_what_is_not_in_lowest_terms(self):
        for text, spot in (("6/4", 2), ("1/1", 2), ("-6/4", 3), ("-12/1", 4), ("10/10", 3), ("7/49", 2)):
            self.parse(spot, Ratio.of_text, text)

    def test_a_wrong_character_is_told_first(self):
        self.parse(3, Ratio.of_text, "6/4x")
        self.parse(3, Ratio.of_text, "1/1x")

    def test_two_thousand_digits(self):
        for text in ("9" * 2000, "-" + "9" * 2000, "1/" + "9" * 2000, "-" + "1" + "0" * 1999 + "/" + "9" * 2000):
            self.assertEqual(str(Ratio.of_text(text)), text)
        self.parse(2000, Ratio.of_text, "9" * 2001)
        self.parse(2000, Ratio.of_text, "9" * 9000)
        self.parse(2001, Ratio.of_text, "-" + "9" * 2001)
        self.parse(2002, Ratio.of_text, "1/" + "9" * 2001)
        self.parse(2000, Ratio.of_text, "9" * 2001 + "/" + "9" * 2001)
        self.parse(4001, Ratio.of_text, "1" + "0" * 1999 + "/" + "9" * 2001)

    def test_no_string(self):
        for value in wrong_values():
            if not isinstance(value, str):
                self.parse(None, Ratio.of_text, value)
        for value in (b"1", 1):
            self.parse(None, Ratio.of_text, value)

    def test_on_random_texts(self):
        rng = random.Random(2)
        for _ in range(3000):
            text = "".join(rng.choice("0012-/") for _ in range(rng.randint(0, 6)))
            top, slash, bottom = text.partition("/")
            try:
                right = Fraction(int(top), int(bottom) if slash else 1)
                is_right = text == (f"{right.numerator}/{right.denominator}" if right.denominator > 1 else f"{right.numerator}")
            except (ValueError, ZeroDivisionError):
                is_right = False
            if is_right:
                self.assertEqual(fraction(Ratio.of_text(text)), right)
            else:
                with self.assertRaises(Exception) as caught:
                    Ratio.of_text(text)
                self.assertIsInstance(caught.exception.spot, int)
                self.assertLessEqual(caught.exception.spot, len(text))


class SumsTest(Case):
    def test_total_and_mean(self):
        self.assertEqual(total(()), Ratio(0))
        self.assertEqual(total(row("1/2 1/3 -5/6")), Ratio(0))
        self.assertEqual(total(row("1/2 1/3 1/7")), r("41/42"))
        self.assertEqual(mean(row("1/2 1/3 1/7")), r("41/126"))
        self.assertEqual(mean(row("5")), Ratio(5))
        self.assertEqual(mean(row("0 0 0")), Ratio(0))

    def test_in_any_order_and_parted(self):
        rng = random.Random(3)
        ratios = [Ratio(rng.randint(-99, 99), rng.randint(1, 99)) for _ in range(30)]
        whole = sum([fraction(one) for one in ratios])
        for _ in range(10):
            rng.shuffle(ratios)
            self.assertEqual(fraction(total(tuple(ratios))), whole)
            self.assertEqual(fraction(mean(tuple(ratios))), whole / 30)
            at = rng.randint(0, 30)
            self.assertEqual(total(tuple(ratios[:at])) + total(tuple(ratios[at:])), total(tuple(ratios)))

    def test_what_is_no_tuple_of_ratios(self):
        self.all_rejected(InvalidRatio, total, [(), (Ratio(1),)])
        self.all_rejected(InvalidRatio, mean, [(Ratio(1),)])
        self.raises(InvalidRatio, mean, ())
        self.raises(InvalidRatio, total, (Ratio(1), 1))
        self.raises(InvalidRatio, total, [Ratio(1)])
