"""[2.4] and [2.5]: spaces."""

import random

from tests import linear
from tests.support import Case, fraction, long_ratio, r, row, rows, texts, wrong_values
from worthstead.errors import InvalidRows, InvalidSpace
from worthstead.exact.ratios import Ratio, total
from worthstead.exact.spaces import Space

ONE, ZERO = Ratio(1), Ratio(0)
TWENTY = 10 ** 20 - 1


def product(one, other):
    return total(tuple(left * right for left, right in zip(one, other)))


def random_space(rng, width):
    size, is_whole = rng.choice(((1, True), (9, True), (10 ** 9, True), (9, False)))
    return Space(width, linear.as_ratios(linear.random_rows(rng, rng.randint(0, 6), width, rng.randint(0, 4), size, is_whole)))


class MakingTest(Case):
    def test_reduced_rows(self):
        self.assertEqual(texts(Space(3, rows("2 4 6", "1 2 4", "3 6 10"))), [["1", "2", "0"], ["0", "0", "1"]])
        self.assertEqual(texts(Space(3, rows("0 0 0"))), [])
        self.assertEqual(texts(Space(2, rows("0 3"))), [["0", "1"]])
        self.assertEqual(texts(Space(4, rows("0 2 1 1", "0 1 1/2 3"))), [["0", "1", "1/2", "0"], ["0", "0", "0", "1"]])
        self.assertEqual(Space(0, ()).rows, ())
        self.assertEqual(Space(0, ((), ())), Space(0, ()))
        self.assertEqual((Space(3, ()).width, len(Space(3, ()))), (3, 0))

    def test_against_elimination(self):
        rng = random.Random(1)
        for _ in range(150):
            width = rng.randint(0, 6)
            size, is_whole = rng.choice(((1, True), (9, True), (10 ** 15, True), (9, False)))
            some = linear.random_rows(rng, rng.randint(0, 8), width, rng.randint(0, 4), size, is_whole)
            space = Space(width, linear.as_ratios(some))
            right, leads = linear.reduced(some, width)
            self.assertEqual(linear.as_fractions(space.rows), right)
            self.assertEqual(len(space), len(leads))
            self.assertEqual(list(space), list(space.rows))

    def test_widths(self):
        for width in (0, 1, 64):
            self.assertEqual(Space(width, ()).width, width)
            self.assertEqual(len(Space.whole(width)), width)
            self.assertEqual(len(Space.ones(width)), min(width, 1))
        for value in wrong_values() + [65, 64.5]:
            if type(value) is not int or not 0 <= value <= 64:
                self.number(value, Space, value, ())
                self.number(value, Space.whole, value)
                self.number(value, Space.ones, value)
        self.number(True, Space, True, None)

    def test_rows_that_are_wrong(self):
        self.all_rejected(InvalidRows, lambda value: Space(0, value), [(), ((),)])
        self.all_rejected(InvalidRows, lambda value: Space(1, value), [(), ((ONE,),)])
        self.raises(InvalidRows, Space, 2, rows("1"))
        self.raises(InvalidRows, Space, 2, rows("1 2 3"))
        self.raises(InvalidRows, Space, 2, rows("1 2", "1"))
        self.raises(InvalidRows, Space, 1, ((ONE,),) * 513)
        self.assertEqual(Space(1, ((ONE,),) * 512), Space.whole(1))
        self.too_many(20, Space, 1, ((Ratio(TWENTY + 1),),))
        self.raises(InvalidRows, Space, 2, ((Ratio(TWENTY + 1),),))
        self.assertEqual(Space(2, ((ONE, Ratio(1, TWENTY)),)).rows, ((ONE, Ratio(1, TWENTY)),))

    def test_reduced_rows_that_are_too_long(self):
        rng = random.Random(2)
        some = tuple(tuple(Ratio(rng.randint(1, TWENTY), rng.randint(1, TWENTY)) for _ in range(13)) for _ in range(12))
        self.too_many(2000, Space, 13, some)
        self.assertEqual(len(Space(13, some[:6])), 6)
        self.assertEqual(Space(12, tuple(one[:12] for one in some)), Space.whole(12))

    def test_whole_and_ones(self):
        self.assertEqual(Space.whole(3), Space(3, rows("1 0 0", "0 1 0", "0 0 1")))
        self.assertEqual(Space.whole(3), Space(3, rows("1 5 0", "0 1 7", "2 0 1")))
        self.assertEqual(texts(Space.ones(3)), [["1", "1", "1"]])
        self.assertEqual(Space.ones(0), Space.whole(0))

    def test_many_rows_of_most_width(self):
        rng = random.Random(3)
        lead = tuple(tuple(Ratio(rng.randint(-3, 3)) for _ in range(64)) for _ in range(20))
        space = Space(64, lead * 25)
        self.assertEqual((len(space), space), (20, Space(64, lead)))
        sums = tuple(tuple(one + two for one, two in zip(left, right)) for left, right in zip(lead, lead[1:]))
        self.assertIs(Space(64, sums).is_within(space), True)
        self.assertEqual(space.behind(Space(64, sums)), space & (space.behind(Space(64, sums))))
        self.assertEqual(len(space.behind(Space(64, sums))), 1)


class ContainsTest(Case):
    def test_members(self):
        plane = Space(3, rows("1 0 2", "0 1 1"))
        for text in ("0 0 0", "1 0 2", "1 2 4", "1/2 1/3 4/3", "-5 2 -8"):
            self.assertIs(row(text) in plane, True)
        for text in ("0 0 1", "1 0 0", "1 2 5", "1 2", "1 2 4 0", ""):
            self.assertIs(row(text) in plane, False)
        self.assertIs(row("1 2 4") not in plane, False)
        self.assertIs(() in Space(0, ()), True)
        self.assertIs(row("0") in Space(1, ()), True)
        self.assertIs(row("1") in Space(1, ()), False)

    def test_any_value(self):
        for value in wrong_values():
            self.assertIs(value in Space.whole(1), value == (ONE,))
            self.assertIs(value in Space(3, ()), False)
            self.assertIs(Space.whole(5) == value, False)
            self.assertIs(Space.whole(5) != value, True)
        self.assertIs([ONE] in Space.whole(1), False)
        self.assertIs((1,) in Space.whole(1), False)

    def test_long_rows(self):
        long = long_ratio(2000, 1990)
        self.assertIs((long, long) in Space.ones(2), True)
        self.assertIs((long, long + Ratio(0)) in Space.ones(2), True)
        self.assertIs((long, -long) in Space.ones(2), False)

    def test_equality(self):
        self.assertEqual(Space(2, rows("1 2")), Space(2, rows("3 6", "0 0")))
        self.assertNotEqual(Space(2, rows("1 2")), Space(2, rows("1 3")))
        self.assertNotEqual(Space(2, ()), Space(3, ()))
        self.assertNotEqual(Space.ones(1), Space.ones(2))


class OperationsTest(Case):
    def test_small_ones(self):
        one, other = Space(3, rows("1 0 0", "0 1 0")), Space(3, rows("0 1 0", "0 0 1"))
        self.assertEqual(one + other, Space.whole(3))
        self.assertEqual(one & other, Space(3, rows("0 1 0")))
        self.assertEqual(one.behind(other), Space(3, rows("1 0 0")))
        self.assertEqual(texts(Space.ones(3).part(row("1 2 6"))), ["3", "3", "3"])
        self.assertEqual(texts(Space.ones(3).rest(row("1 2 6"))), ["-2", "-1", "3"])
        slope, line = Space(2, rows("1 1")), Space(2, rows("1 0"))
        self.assertEqual(texts(slope.behind(line)), [["0", "1"]])
        self.assertIs(slope.behind(line).is_within(slope), False)
        self.assertIs(line.is_square_to(slope), False)
        self.assertIs(line.is_square_to(Space(2, rows("0 3"))), True)

    def test_edges(self):
        for width in (0, 1, 5, 64):
            whole, none = Space.whole(width), Space(width, ())
            self.assertEqual(whole + none, whole)
            self.assertEqual(whole & none, none)
            self.assertEqual(whole & whole, whole)
            self.assertEqual(none + none, none)
            self.assertEqual(whole.behind(none), whole)
            self.assertEqual(none.behind(whole), none)
            self.assertEqual(whole.behind(whole), none)
            self.assertIs(none.is_within(whole) and none.is_within(none) and none.is_square_to(whole), True)
            self.assertIs(whole.is_within(none), width == 0)
            self.assertIs(whole.is_square_to(whole), width == 0)
            some = tuple(Ratio(at + 1, 3) for at in range(width))
            self.assertEqual((whole.part(some), none.part(some)), (some, (ZERO,) * width))
            self.assertEqual((whole.rest(some), none.rest(some)), ((ZERO,) * width, some))

    def test_against_their_properties(self):
        rng = random.Random(4)
        for _ in range(120):
            width = rng.randint(0, 6)
            one, other = random_space(rng, width), random_space(rng, width)
            joined, common, behind = one + other, one & other, one.behind(other)
            right = linear.reduced(linear.as_fractions(one.rows + other.rows), width)[0]
            self.assertEqual(linear.as_fractions(joined.rows), right)
            self.assertEqual(len(common), len(one) + len(other) - len(joined))
            self.assertIs(common.is_within(one) and common.is_within(other), True)
            self.assertEqual(len(behind), len(joined) - len(other))
            self.assertIs(behind.is_square_to(other) and behind.is_within(joined), True)
            self.assertEqual(joined.behind(other), behind)
            if other.is_within(one):
                self.assertIs(behind.is_within(one), True)
            for space in (common, behind):
                self.assertEqual(linear.as_fractions(space), linear.reduced(linear.as_fractions(space), width)[0])
            rests = tuple(other.rest(member) for member in one)
            self.assertTrue(all(rest in behind for rest in rests))
            self.assertEqual(linear.rank(linear.as_fractions(rests), width), len(behind))
            self.assertIs(one.is_within(other), linear.rank(right, width) == len(other))
            self.assertIs(
                one.is_square_to(other), not any(product(left, member) for left in one for member in other)
            )

    def test_parts_and_rests(self):
        rng = random.Random(5)
        for _ in range(80):
            width = rng.randint(1, 6)
            space = random_space(rng, width)
            some = tuple(Ratio(rng.randint(-9, 9), rng.randint(1, 9)) for _ in range(width))
            part, rest = space.part(some), space.rest(some)
            self.assertIn(part, space)
            self.assertEqual(tuple(left + right for left, right in zip(part, rest)), some)
            self.assertFalse(any(product(rest, member) for member in space))
            self.assertEqual((space.part(part), space.rest(part)), (part, (ZERO,) * width))

    def test_rows_that_are_wrong(self):
        space = Space.ones(2)
        for call in (space.part, space.rest):
            self.all_rejected(InvalidRows, call)
            self.raises(InvalidRows, call, row("1"))
            self.raises(InvalidRows, call, row("1 2 3"))
            self.raises(InvalidRows, call, list(row("1 2")))

    def test_spaces_that_are_wrong(self):
        space = Space.ones(2)
        for call in (space.behind, space.is_within, space.is_square_to):
            self.all_rejected(InvalidSpace, call, [Space.whole(2)])
            self.raises(InvalidSpace, call, Space.ones(3))
            self.raises(InvalidSpace, call, Space(1, ()))
        for value in wrong_values():
            if not isinstance(value, Space):
                for act in (lambda: space + value, lambda: value + space, lambda: space & value, lambda: value & space):
                    with self.assertRaises(TypeError):
                        act()
        self.raises(InvalidSpace, lambda: space + Space.ones(3))
        self.raises(InvalidSpace, lambda: space & Space.ones(3))
        with self.assertRaises(TypeError):
            space - space

    def test_numbers_on_the_way_may_be_long(self):
        long, other = r("9" * 1500), r("8" * 1499 + "7")
        line = Space.ones(2).behind(Space(2, ()))
        self.assertEqual(line.part((long, -long)), (ZERO, ZERO))
        self.assertEqual(line.rest((long, long)), (ZERO, ZERO))
        some = (Ratio(1).over(long), Ratio(1).over(other))
        self.too_many(2000, line.part, some)
        self.too_many(2000, line.rest, some)
        half = (r("9" * 2000), r("9" * 2000))
        self.assertEqual(line.part(half), half)
        self.too_many(2000, line.part, (r("9" * 2000).over(r("7" * 1999 + "1")), Ratio(1, 3)))

    def test_results_of_spaces_that_are_too_long(self):
        width = 12
        rng = random.Random(6)
        some = [tuple(Ratio(rng.randint(1, TWENTY), rng.randint(1, TWENTY)) for _ in range(width)) for _ in range(10)]
        one, other = Space(width, tuple(some[:5])), Space(width, tuple(some[5:]))
        self.too_many(2000, lambda: one + other)
        self.too_many(2000, one.behind, other)
        whole = Space.whole(width)
        self.assertEqual(one.is_within(whole), True)
        self.assertEqual((one & whole, one + whole), (one, whole))
        self.assertEqual(len(one & other), 0)
        self.assertEqual(one.behind(whole), Space(width, ()))
        self.assertIs(one.is_square_to(other), False)
        self.assertIs(one.is_within(other), False)
        self.assertEqual(one.behind(Space(width, ())), one)

    def test_what_stays_the_same(self):
        space = Space(3, rows("1 0 2"))
        _ = space + Space.whole(3), space & Space.ones(3), space.behind(Space.ones(3)), space.part(row("1 2 3"))
        self.assertEqual(texts(space), [["1", "0", "2"]])
        with self.assertRaises(AttributeError):
            space.rows = ()
        with self.assertRaises(TypeError):
            space[0]
        self.assertEqual(fraction(space.rows[0][2]), 2)
