"""[1.2] in rows and spaces: 2000 and 2001 digits of a result, and longer numbers on the way."""

from tests.support import Case, fraction, r
from worthstead.exact.ratios import Ratio
from worthstead.exact.rows import base_of, is_summed, multiplied, rank_of, summed, sums_of
from worthstead.exact.spaces import Space

LINKS = 53
WIDTH = LINKS + 2
ONE, ZERO = Ratio(1), Ratio(0)


def unit(place):
    return tuple(ONE if at == place else ZERO for at in range(WIDTH))


def chain(exponent, ends=((LINKS, ONE),), is_turned=False):
    """Rows by which the unit row 0 is 10 ** exponent times the sum of the ends; if turned, divided by it."""
    rows, left = [], exponent
    for at in range(LINKS):
        first = min(left, 19)
        second = min(left - first, 19)
        left = left - first - second
        head, tail = (Ratio(1, 10 ** first), Ratio(10 ** second))
        if is_turned:
            head, tail = (Ratio(10 ** first), Ratio(1, 10 ** second))
        row = [ZERO] * WIDTH
        row[at] = head
        for place, worth in ends if at == LINKS - 1 else ((at + 1, ONE),):
            row[place] = -tail * worth
        rows.append(tuple(row))
    assert left == 0
    return tuple(rows)


def line(exponent, ends):
    """The line of a row with 1 ahead and long numbers at the ends."""
    places = (unit(0),) + tuple(unit(place) for place, _ in ends)
    return Space(WIDTH, chain(exponent, ends)) & Space(WIDTH, places)


class RowsTest(Case):
    def test_weights(self):
        for is_turned in (False, True):
            rows = chain(1999, is_turned=is_turned) + (unit(LINKS),)
            long = r("1" + "0" * 1999)
            self.assertEqual(sums_of(rows + (unit(0),))[LINKS + 1][-1], ONE.over(long) if is_turned else long)
            word, weights = summed(rows, unit(0))
            self.assertEqual((word, weights[-1]), ("sum", ONE.over(long) if is_turned else long))
            self.assertIs(is_summed(rows, unit(0), (word, weights)), True)
            near = weights[:-1] + (weights[-1] + Ratio(1, 10 ** 19) if is_turned else weights[-1] + ONE,)
            self.assertIs(is_summed(rows, unit(0), (word, near)), False)
            rows = chain(2000, is_turned=is_turned) + (unit(LINKS),)
            self.too_many(2000, sums_of, rows + (unit(0),))
            self.too_many(2000, summed, rows, unit(0))
            self.assertEqual(rank_of(rows + (unit(0),)), LINKS + 1)
            self.assertEqual(base_of(rows + (unit(0),)), tuple(range(LINKS + 1)))

    def test_rows_apart(self):
        for is_turned in (False, True):
            rows = chain(1999, is_turned=is_turned)
            long = r("1" + "0" * 1999)
            word, apart = summed(rows, unit(LINKS))
            self.assertEqual((word, apart[0]), ("apart", ONE.over(long) if is_turned else long))
            self.assertIs(is_summed(rows, unit(LINKS), (word, apart)), True)
            self.assertIs(is_summed(rows, unit(LINKS), (word, (apart[0] + Ratio(1),) + apart[1:])), False)
            self.too_many(2000, summed, chain(2000, is_turned=is_turned), unit(LINKS))

    def test_products(self):
        rows = (tuple(Ratio(1, 10 ** 19 + at) for at in range(130)),)
        self.too_many(2000, multiplied, rows, ((ONE,),) * 130)
        short = multiplied(rows, tuple((Ratio(10 ** 19 + at),) for at in range(130)))
        self.assertEqual(short, ((Ratio(130),),))


class SpacesTest(Case):
    def test_reduced_rows(self):
        for is_turned in (False, True):
            rows = chain(1999, is_turned=is_turned)
            long = r("1" + "0" * 1999)
            self.assertEqual(Space(WIDTH, rows).rows[0][LINKS], -(ONE.over(long) if is_turned else long))
            self.too_many(2000, Space, WIDTH, chain(2000, is_turned=is_turned))
            self.assertEqual(len(Space(WIDTH, chain(2000, is_turned=is_turned) + (unit(LINKS),))), LINKS + 1)

    def test_parts_and_rests(self):
        ones = Space.ones(2)
        most = r("9" * 2000)
        less = most - ONE
        self.assertEqual(ones.rest((most, less)), (Ratio(1, 2), Ratio(-1, 2)))
        self.too_many(2000, ones.part, (most, less))
        self.assertEqual(ones.part((most, -less)), (Ratio(1, 2), Ratio(1, 2)))
        self.too_many(2000, ones.rest, (most, -less))
        self.assertEqual((ones.part((most, most)), ones.rest((most, -most))), ((most, most), (most, -most)))

    def test_parts_in_a_line_with_long_numbers(self):
        space = line(900, ((LINKS, ONE),))
        long = r("1" + "0" * 900)
        self.assertEqual(space.rows, ((ONE,) + (ZERO,) * (LINKS - 1) + (-long, ZERO),))
        part = space.part(unit(0))
        bottom = long * long + ONE
        self.assertEqual((part[0], part[LINKS]), (ONE.over(bottom), (-long).over(bottom)))
        self.assertEqual(space.rest(unit(0))[LINKS], long.over(bottom))
        self.too_many(2000, line(1000, ((LINKS, ONE),)).part, unit(0))
        self.too_many(2000, line(1000, ((LINKS, ONE),)).rest, unit(0))
        self.assertEqual(len(line(999, ((LINKS, ONE),)).part(unit(0))), WIDTH)
        self.assertEqual(line(1999, ((LINKS, ONE),)).part(unit(1)), (ZERO,) * WIDTH)
        row = tuple(one * Ratio(3) for one in line(1999, ((LINKS, ONE),)).rows[0])
        self.assertEqual(line(1999, ((LINKS, ONE),)).part(row), row)

    def test_what_is_behind_may_be_shorter_than_what_is_joined(self):
        ends = ((LINKS, Ratio(2)), (LINKS + 1, Ratio(3)))
        space = line(1999, ends)
        self.assertEqual([fraction(space.rows[0][place]) for place, _ in ends], [-2 * 10 ** 1999, -3 * 10 ** 1999])
        other = Space(WIDTH, (tuple(Ratio({LINKS: 3, LINKS + 1: -2}.get(at, 0)) for at in range(WIDTH)),))
        self.too_many(2000, lambda: space + other)
        self.assertEqual(other.behind(space), other)
        self.assertEqual(space.behind(other), space)
        self.assertEqual(len(space & other), 0)
        self.assertIs(other.is_square_to(space), True)
        self.assertIs(other.is_within(space), False)
        third = Space(WIDTH, (unit(LINKS),))
        self.too_many(2000, third.behind, line(1500, ends))
        self.assertEqual(len(third.behind(line(600, ends))), 1)
