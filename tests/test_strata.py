"""Stage 8: strata and shares."""

import itertools
import random
from fractions import Fraction

from tests.linear import as_fractions, as_ratios, as_space, orthogonal, part, product, rank, rests, square
from tests.making import factor, long_model, model_of, numbers, random_formula, random_table, table_of
from tests.support import Case, fraction, long_ratio, r, row, rows, texts, wrong_values
from tests.test_fits import holds, span
from tests.test_orders import is_fair_by_rule, slow_own
from worthstead.errors import InvalidModel, InvalidOperation, InvalidRatio, InvalidTable
from worthstead.exact.ratios import Ratio, total
from worthstead.exact.spaces import Space
from worthstead.fits.counts import equal_share
from worthstead.fits.fits import Fit
from worthstead.fits.orders import own_part
from worthstead.fits.strata import Strata
from worthstead.models.codings import CODINGS
from worthstead.models.models import Model
from worthstead.models.told import told
from worthstead.tables.columns import Factor
from worthstead.tables.tables import Table

SPLIT = table_of(
    "factor a l,h l l h h", "factor b l,h l h l h", "factor c p,q,r p q q r", "number y 1 2 4 8", "factor d s,t s s t ?"
)


def slow_blocks(model, blocks):
    """For each B(k) rows of fractions that span it."""
    width = len(model.kept)
    found = [[[Fraction(1)] * width] if width else []]
    for many in range(1, len(blocks) + 2):
        keys = list(range(width))
        if many <= len(blocks):
            keys = [tuple(model.table[name].codes[at] for name in blocks[:many]) for at in model.kept]
        found.append([[Fraction(int(key == one)) for key in keys] for one in sorted(set(keys))])
    return found


def slow_strata(model, blocks):
    """For each stratum rows square to one another that span it."""
    spans = slow_blocks(model, blocks)
    return [orthogonal(spans[0])] + [rests(spans[at], spans[at - 1]) for at in range(1, len(spans))]


def random_strata(seed, many, most=9, factors=(("a", 2), ("b", 3), ("c", 2)), names="abu", response="y"):
    rng = random.Random(seed)
    for _ in range(many):
        table = random_table(rng, rng.randint(0, most), factors=factors, bottom=2)
        model = Model(table, random_formula(rng, list(names), 3, response=response))
        yield rng, model, tuple(rng.sample("abc", rng.randint(0, 3)))


def columns_of(model):
    return [[fraction(line[at]) for line in model.rows] for at in range(len(model))]


class SpacesTest(Case):
    def test_by_chance(self):
        for _, model, blocks in random_strata(91, 50):
            width = len(model.kept)
            strata = Strata(model, blocks)
            wanted = tuple(as_space(one, width) for one in slow_strata(model, blocks))
            self.assertEqual(strata.spaces, wanted)
            self.assertEqual(len(strata), len(blocks) + 2)
            self.assertEqual(str(strata), f"{len(blocks) + 2} strata of {width} rows")
            self.assertEqual((strata.model, strata.blocks), (model, blocks))
            for one, other in itertools.combinations(strata.spaces, 2):
                self.assertTrue(one.is_square_to(other))
            self.assertEqual(sum(len(one) for one in strata.spaces), width)

    def test_small_ones(self):
        self.assertEqual(Strata(model_of(SPLIT, "a"), ()).spaces, (
            Space.ones(4), Space(4, rows("1 0 0 -1", "0 1 0 -1", "0 0 1 -1")),
        ))
        strata = Strata(model_of(SPLIT, "a"), ("c",))
        self.assertEqual(strata.spaces[2], Space(4, rows("0 1 -1 0")))
        self.assertEqual(str(strata), "3 strata of 4 rows")
        whole = Strata(model_of(SPLIT, "1"), ("a", "b"))
        self.assertEqual([len(space) for space in whole.spaces], [1, 1, 2, 0])

    def test_six_blocks(self):
        lines = list(itertools.product(range(2), repeat=6))
        table = Table({name: factor(2, [line[at] for line in lines]) for at, name in enumerate("abcdef")})
        strata = Strata(model_of(table, "a + f"), tuple("abcdef"))
        self.assertEqual([len(space) for space in strata.spaces], [1, 1, 2, 4, 8, 16, 32, 0])
        self.assertEqual(texts([one for _, one in strata.share(("f",))]), ["0", "0", "0", "0", "0", "0", "1", "0"])
        self.assertEqual(texts([one for _, one in strata.share(("a",))]), ["0", "1", "0", "0", "0", "0", "0", "0"])

    def test_blocks_that_hang_together(self):
        table = table_of("factor a l,h l l h h", "factor b l,h h h l l", "number y 1 2 3 5")
        strata = Strata(model_of(table, "y ~ 1"), ("a", "b"))
        self.assertEqual([len(space) for space in strata.spaces], [1, 1, 0, 2])
        self.assertEqual(strata.sums_in(2), row("0 0"))
        self.assertEqual(strata.share(()), tuple(("share", r(one)) for one in (1, 0, 0, 0)))

    def test_without_kept_rows(self):
        strata = Strata(model_of(SPLIT.picked(()), "y ~ a"), ("c", "b"))
        self.assertEqual(strata.spaces, (Space(0, ()),) * 4)
        self.assertEqual(str(strata), "4 strata of 0 rows")
        self.assertEqual([strata.share(term) for term in ((), ("a",))], [(), ()])
        self.assertEqual(strata.balanced(), ("balanced",))
        self.assertEqual(strata.sums_in(3), row("0 0 0"))
        self.assertEqual(strata.told_in(0, row("0 0")), ("told", ()))
        self.assertEqual(strata.told_in(0, row("0 1"))[0], "free")

    def test_equal(self):
        one = Strata(model_of(SPLIT, "a"), ("c",))
        self.assertEqual(one, Strata(model_of(SPLIT, "a"), ("c",)))
        for other in (Strata(model_of(SPLIT, "b"), ("c",)), Strata(model_of(SPLIT, "a"), ("b",)), Strata(model_of(SPLIT, "a"), ())):
            self.assertNotEqual(one, other)
        for value in wrong_values():
            self.assertFalse(one == value)
        self.assertRaises(TypeError, iter, one)

    def test_wrong_arguments(self):
        model = model_of(SPLIT, "a")
        self.all_rejected(InvalidModel, lambda one: Strata(one, 3))
        self.all_rejected(InvalidOperation, lambda one: Strata(model, one), right=((), ("a",)))
        for wrong in (("a", "a"), tuple("abcdefg"), ["a"], ("A",), (("a",),)):
            self.raises(InvalidOperation, Strata, model, wrong)
        self.unknown("q", Strata, model, ("y", "q", "p"))
        self.unknown("q", Strata, model, ("d", "q"))
        self.raises(InvalidTable, Strata, model, ("a", "y"))
        self.raises(InvalidTable, Strata, model, ("d",))
        # In a row that is not kept a block may lack its value.
        lacking = table_of("factor a l,h l h ?", "factor d s,t s t ?")
        self.assertEqual(len(Strata(model_of(lacking, "a"), ("d",)).spaces), 3)
        self.raises(InvalidTable, Strata, model_of(lacking, "1"), ("d",))


class ToldInTest(Case):
    def test_by_chance(self):
        words = set()
        for rng, model, blocks in random_strata(92, 60):
            strata = Strata(model, blocks)
            lines = as_fractions(model.rows)
            for index, one in enumerate(slow_strata(model, blocks)):
                made = [[product(vector, column) for column in columns_of(model)] for vector in one]
                wanted = tuple(Ratio(rng.randint(-2, 2)) for _ in model.names)
                if made and rng.random() < 0.7:
                    wanted = as_ratios([rng.choice(made)])[0]
                side = as_fractions([wanted])[0]
                found = strata.told_in(index, wanted)
                words.add(found[0])
                is_sum = rank(made + [side], len(model)) == rank(made, len(model))
                self.assertEqual(found[0], "told" if is_sum else "free")
                self.assertTrue(strata.is_told_in(index, wanted, found))
                if is_sum:
                    vector = as_fractions([found[1]])[0]
                    self.assertEqual(part(one, vector), vector)
                    self.assertEqual([product(vector, column) for column in columns_of(model)], side)
                    self.assertEqual(told(model, wanted)[0], "told")
                else:
                    free = as_fractions([found[1]])[0]
                    self.assertEqual(product(free, side), 1)
                    self.assertEqual(part(one, [product(free, line) for line in lines]), [0] * len(lines))
        self.assertEqual(words, {"told", "free"})

    def test_what_no_stratum_tells_the_whole_can_tell(self):
        table = table_of("factor a l,m,h l m m h", "factor c p,q p p q q")
        model = model_of(table, "a")
        wanted = row("0 0 1")
        self.assertEqual(told(model, wanted)[0], "told")
        strata = Strata(model, ("c",))
        whole = row("1 0 1")
        self.assertEqual(told(model, whole)[0], "told")
        self.assertEqual([strata.told_in(at, whole)[0] for at in range(3)], ["free"] * 3)

    def test_certificates(self):
        strata = Strata(model_of(SPLIT, "a"), ("c",))
        wanted = row("0 1")
        self.assertEqual([strata.told_in(at, wanted)[0] for at in range(3)], ["free", "told", "told"])
        self.assertTrue(strata.is_told_in(2, wanted, ("told", row("0 -1 1 0"))))
        self.assertTrue(strata.is_told_in(1, wanted, ("told", row("-1 0 0 1"))))
        for wrong in (
            ("told", row("-1 0 1 0")), ("told", row("0 -2 2 0")), ("told", (0, -1, 1, 0)), ("told", row("0 -1 1")),
            ("told", row("0 -1 1 0 0")), ["told", row("0 -1 1 0")], ("free", row("0 -1 1 0")), ("sum", row("0 -1 1 0")),
            ("told", list(row("0 -1 1 0"))), ("told",), ("free", row("0 1")), ("told", row("-1 0 0 1")),
        ):
            self.assertFalse(strata.is_told_in(2, wanted, wrong), wrong)
        for value in wrong_values():
            self.assertFalse(strata.is_told_in(2, wanted, value))
        loose = row("1 0")
        self.assertEqual(strata.told_in(2, loose)[0], "free")
        self.assertTrue(strata.is_told_in(2, loose, ("free", row("1 0"))))
        for wrong in ("1 1", "2 0", "1", "1 0 0"):
            self.assertFalse(strata.is_told_in(2, loose, ("free", row(wrong))), wrong)
        for wrong in (("free", (1, 0)), ("told", row("1 0")), ("apart", row("1 0")), ("free", list(row("1 0")))):
            self.assertFalse(strata.is_told_in(2, loose, wrong))
        twice = Strata(model_of(SPLIT, "1"), ("c",))
        self.assertTrue(twice.is_told_in(1, row("0"), ("told", row("2 -1 -1 0"))))
        self.assertFalse(twice.is_told_in(1, row("0"), ("told", row("2 -1 -1 1"))))

    def test_wrong_arguments(self):
        strata = Strata(model_of(SPLIT, "a"), ("c",))
        for call in (strata.told_in, lambda index, wanted: strata.is_told_in(index, wanted, None)):
            for value in wrong_values() + [3]:
                if not (type(value) is int and 0 <= value < 3):
                    self.number(value, call, value, None)
            self.all_rejected(InvalidRatio, lambda one: call(0, one))
            self.raises(InvalidRatio, call, 0, row("1 1 1"))
            self.raises(InvalidRatio, call, 0, (1, 1))
            self.too_many(20, call, 2, (long_ratio(21), r(0)))
            self.too_many(20, call, 2, (r(0), long_ratio(3, 21)))
        self.assertEqual(strata.told_in(0, (long_ratio(20), r(0)))[0], "free")


class SumsInTest(Case):
    def test_by_chance(self):
        for rng, model, blocks in random_strata(93, 40, most=7):
            strata = Strata(model, blocks)
            side = as_fractions([model.response])[0]
            terms = model.formula.terms
            for index, one in enumerate(slow_strata(model, blocks)):
                order = tuple(rng.sample(terms, len(terms)))
                found, behind = [], []
                for term in order:
                    parts = [part(one, vector) for vector in span(model, term)]
                    found.append(square(part(rests(parts, behind), side)))
                    behind = behind + parts
                found.append(square(part(one, side)) - sum(found))
                self.assertEqual(as_fractions([strata.sums_in(index, order=order)])[0], found)
                self.assertEqual(strata.sums_in(index), strata.sums_in(index, order=terms))

    def test_without_blocks(self):
        model = model_of(SPLIT, "y ~ a + b")
        strata = Strata(model, ())
        found = [strata.sums_in(at) for at in range(2)]
        self.assertEqual(tuple(one + other for one, other in zip(*found)), Fit(model).sums())

    def test_sums_need_not_add_up(self):
        table = table_of("factor a l,m,h l m m h", "factor c p,q p p q q", "number y 1 2 4 9")
        model = model_of(table, "y ~ a")
        strata = Strata(model, ("c",))
        parts = [strata.sums_in(at)[1] for at in range(3)]
        self.assertNotEqual(total(tuple(parts)), Fit(model).sums()[1])
        self.assertEqual(total(tuple(one for at in range(3) for one in strata.sums_in(at))), Fit(model).total)

    def test_wrong_arguments(self):
        strata = Strata(model_of(SPLIT, "y ~ a"), ("c",))
        for value in wrong_values() + [3]:
            if not (type(value) is int and 0 <= value < 3):
                self.number(value, lambda one: strata.sums_in(one, order=3), value)
        self.all_rejected(InvalidOperation, lambda one: strata.sums_in(0, order=one), right=(None,))
        self.raises(InvalidOperation, strata.sums_in, 0, order=(("a",),))
        self.assertEqual(len(strata.sums_in(0, order=(("a",), ()))), 3)
        bare = Strata(model_of(SPLIT, "a"), ("c",))
        self.number(3, lambda: bare.sums_in(3, order=()))
        self.raises(InvalidOperation, bare.sums_in, 0, order=())
        self.refused(("response",), bare.sums_in, 0)

    def test_long_sums(self):
        long = long_model(random.Random(94), 64, "y ~ a*b*c")
        table = long.table.with_column("g", factor(2, [0, 1] * 32))
        strata = Strata(Model(table, long.formula), ("g",))
        self.too_many(2000, strata.sums_in, 2)
        self.assertEqual(len(strata.sums_in(0)), 9)
        # A share can be too long to be returned, and it is there nevertheless.
        self.too_many(2000, strata.share, ("a", "b", "c"))
        found = strata.balanced()
        self.assertEqual(found[:4], ("parts", ("a",), ("b",), 1))
        self.assertTrue(strata.is_unbalanced(found))
        self.assertFalse(strata.is_share(("a", "b", "c"), (("share", r("1/2")),) * 3))


def back_of(own, stratum, vector):
    """What comes back of a row."""
    return part(own, part(stratum, vector))


def share_of(own, stratum):
    """The share of the rows of an own part in a stratum, or None."""
    factors = set()
    for vector in own:
        back = back_of(own, stratum, vector)
        factor_told = product(back, vector) / square(vector)
        if back != [factor_told * one for one in vector]:
            return None
        factors.add(factor_told)
    return factors.pop() if len(factors) == 1 else None


class ShareTest(Case):
    def check_none(self, own, stratum, vector):
        side = as_fractions([vector])[0]
        self.assertEqual(part(own, side), side)
        back = back_of(own, stratum, side)
        self.assertEqual(rank([side, back], len(side)), 2)

    def test_by_chance(self):
        words = set()
        for _, model, blocks in random_strata(95, 60):
            strata = Strata(model, blocks)
            spaces = slow_strata(model, blocks)
            for term in model.formula.terms:
                own = slow_own(model, term)
                found = strata.share(term)
                self.assertTrue(strata.is_share(term, found))
                if not own:
                    self.assertEqual(found, ())
                    continue
                self.assertEqual(len(found), len(spaces))
                for (word, shown), stratum in zip(found, spaces):
                    words.add(word)
                    wanted = share_of(own, stratum)
                    if wanted is None:
                        self.assertEqual(word, "none")
                        self.check_none(own, stratum, shown)
                    else:
                        self.assertEqual((word, fraction(shown)), ("share", wanted))
                        self.assertTrue(0 <= wanted <= 1)
                if all(word == "share" for word, _ in found):
                    self.assertEqual(total(tuple(one for _, one in found)), r(1))
                self.assertNotEqual([word for word, _ in found].count("none"), 1)
                if any(holds(model, term, other) for other in [()] if () in model.formula.terms):
                    self.assertEqual(found[0], ("share", r(0)))
        self.assertEqual(words, {"share", "none"})

    def test_unlike_multiples(self):
        # Each of the two columns comes back by its own share, so their sum comes back as no multiple.
        table = table_of("factor a p,q,r p q p q r r", "factor c t,u,v t t u u v v")
        for word in CODINGS:
            strata = Strata(model_of(table, "a", a=word), ("c",))
            found = strata.share(("a",))
            self.assertEqual([word for word, _ in found], ["share", "none", "none"])
            for index in (1, 2):
                self.check_none(slow_own(strata.model, ("a",)), slow_strata(strata.model, ("c",))[index], found[index][1])
            self.assertTrue(strata.is_share(("a",), found))
            # The difference of p and q comes back as 0 from the blocks, so it shows nothing.
            for wrong in (row("1 -1 1 -1 0 0"), row("1 1 1 1 -2 -2")):
                self.assertFalse(strata.is_share(("a",), (found[0], ("none", wrong), found[2])))
            self.assertTrue(strata.is_share(("a",), (found[0], ("none", row("2 0 2 0 -2 -2")), found[2])))
            for wrong in ("0", "1", "1/2", "1/3", "2/3", "1/4", "3/4"):
                self.assertFalse(strata.is_share(("a",), (found[0], ("share", r(wrong)), found[2])))

    def test_certificates(self):
        strata = Strata(model_of(SPLIT, "a*b"), ("c",))
        right = strata.share(("a",))
        self.assertEqual(right, tuple(("share", r(one)) for one in ("0", "1/2", "1/2")))
        for wrong in (
            list(right), right[:2], right + (right[0],), (right[1],) + right[1:], (["share", r(0)],) + right[1:],
            (("share", 0),) + right[1:], (("none", row("1 1 -1 -1")),) + right[1:], (("share", r(0), 1),) + right[1:],
            (), (None,) * 3, (("told", r(0)),) + right[1:], (("share", row("0")),) + right[1:],
        ):
            self.assertFalse(strata.is_share(("a",), wrong), wrong)
        for value in wrong_values():
            self.assertFalse(strata.is_share(("a",), value))
        table = table_of("factor a p,q,r p q q r", "factor c t,u t t u u")
        free = Strata(model_of(table, "a"), ("c",))
        found = free.share(("a",))
        self.assertEqual([word for word, _ in found], ["share", "none", "none"])
        for vector in ("1 -1 -1 1", "5 -3 -3 1", "1 0 0 -1"):
            expected = rank([
                as_fractions([row(vector)])[0],
                back_of(slow_own(free.model, ("a",)), slow_strata(free.model, ("c",))[1], as_fractions([row(vector)])[0]),
            ], 4) == 2
            self.assertEqual(free.is_share(("a",), (found[0], ("none", row(vector)), found[2])), expected)
        for wrong in (row("0 0 0 0"), row("1 0 0 0"), row("1 -1 -1"), (5, -3, -3, 1), r(1), None, list(row("5 -3 -3 1"))):
            self.assertFalse(free.is_share(("a",), (found[0], ("none", wrong), found[2])))
        stratum = slow_strata(free.model, ("c",))[1]
        for vector in as_fractions(tuple(own_part(free.model, ("a",)))) + slow_own(free.model, ("a",)):
            # The share that this row alone would have.
            wrong = as_ratios([[product(vector, part(stratum, vector)) / square(vector)]])[0][0]
            self.assertFalse(free.is_share(("a",), (found[0], ("share", wrong), found[2])))
        hanging = Strata(model_of(table_of("number u 0 0"), "u"), ())
        self.assertEqual(hanging.share(("u",)), ())
        self.assertTrue(hanging.is_share(("u",), ()))
        self.assertFalse(hanging.is_share(("u",), (("share", r(0)),) * 2))

    def test_wrong_arguments(self):
        strata = Strata(model_of(SPLIT, "a"), ("c",))
        for value in wrong_values() + [("b",)]:
            if value != () and value != ("a",):
                self.unknown(value, strata.share, value)
                self.unknown(value, strata.is_share, value, 3)


class BalancedTest(Case):
    def slow(self, model, blocks):
        """The word of the certificate and its terms and index, in the order that the document tells."""
        terms = model.formula.terms
        owns = {term: slow_own(model, term) for term in terms}
        spaces = slow_strata(model, blocks)
        for term in terms:
            for index, stratum in enumerate(spaces):
                if owns[term] and share_of(owns[term], stratum) is None:
                    return "share", term, index
        for one, other in itertools.combinations(terms, 2):
            for index, stratum in enumerate(spaces):
                if any(product(v, part(stratum, w)) for v in owns[one] for w in owns[other]):
                    return "parts", one, other, index
        return ("balanced",)

    def check(self, model, blocks):
        strata = Strata(model, blocks)
        found = strata.balanced()
        wanted = self.slow(model, blocks)
        self.assertEqual(found[:len(wanted)], wanted)
        self.assertEqual(strata.is_unbalanced(found), wanted != ("balanced",))
        return found

    def test_by_chance(self):
        words = {}
        for _, model, blocks in random_strata(96, 50, most=8, response=None):
            word = self.check(model, blocks)[0]
            words[word] = words.get(word, 0) + 1
        for at in range(30):
            rng = random.Random(at)
            lines = list(itertools.product(range(2), repeat=3))
            table = Table({
                **{name: factor(2, [line[place] for line in lines]) for place, name in enumerate("abc")},
                "d": factor(4, [rng.choice(((line[0] + line[1]) % 2, line[0] * 2 + line[1] * line[2])) for line in lines]),
                "e": factor(4, [(line[0] + line[1]) % 2 * 2 + (line[1] + line[2]) % 2 for line in lines]),
            })
            word = self.check(model_of(table, rng.choice(("a*b*c", "a + b + c", "a*b", "a:b + c"))), (rng.choice("de"),))[0]
            words[word] = words.get(word, 0) + 1
        self.assertEqual(sorted(words), ["balanced", "parts", "share"])

    def test_sums_of_balanced_models(self):
        lines = list(itertools.product(range(2), repeat=3))
        table = Table({
            **{name: factor(2, [line[place] for line in lines]) for place, name in enumerate("abc")},
            "d": factor(4, [(line[0] + line[1]) % 2 * 2 + (line[1] + line[2]) % 2 for line in lines]),
            "y": numbers(3, 1, 4, 1, 5, 9, 2, 6),
        })
        model = model_of(table, "y ~ a + b + c + a:b")
        strata = Strata(model, ("d",))
        self.assertEqual(strata.balanced(), ("balanced",))
        side = as_fractions([model.response])[0]
        for index, stratum in enumerate(slow_strata(model, ("d",))):
            wanted = {
                term: square(part(orthogonal([part(stratum, v) for v in slow_own(model, term)]), side))
                for term in model.formula.terms
            }
            for order in itertools.permutations(model.formula.terms):
                if is_fair_by_rule(model, order):
                    found = as_fractions([strata.sums_in(index, order=order)])[0]
                    self.assertEqual(found[:-1], [wanted[term] for term in order])

    def test_shares_are_not_enough(self):
        strata = Strata(model_of(SPLIT, "a * b"), ("c",))
        self.assertTrue(all(word == "share" for term in strata.model.formula.terms for word, _ in strata.share(term)))
        self.assertEqual(strata.balanced()[:4], ("parts", ("a",), ("b",), 1))

    def test_certificates(self):
        strata = Strata(model_of(SPLIT, "a * b"), ("c",))
        v, w = row("1 1 -1 -1"), row("1 -1 1 -1")
        self.assertTrue(strata.is_unbalanced(("parts", ("a",), ("b",), 1, v, w)))
        self.assertTrue(strata.is_unbalanced(("parts", ("a",), ("b",), 2, row("-2 -2 2 2"), w)))
        for wrong in (
            ("parts", ("a",), ("b",), 0, v, w), ("parts", ("b",), ("a",), 1, w, v), ("parts", ("a",), ("b",), 3, v, w),
            ("parts", ("a",), ("b",), -1, v, w), ("parts", ("a",), ("b",), True, v, w), ("parts", ("a",), ("b",), 1, w, v),
            ("parts", ("a",), ("b",), 1, row("0 0 0 0"), w), ("parts", ("a",), ("a",), 1, v, v),
            ("parts", ("a",), ("b",), 1, v, (1, -1, 1, -1)), ("parts", ("a",), ("b",), 1, v), ("parts", ("a",), ("c",), 1, v, w),
            ["parts", ("a",), ("b",), 1, v, w], ("part", ("a",), ("b",), 1, v, w), ("parts", ("a",), ("a", "b"), 1, v, row("1 -1 -1 1")),
            ("share", ("a",), 1, v), ("balanced",), ("share", ("a",), 1), ("parts", ["a"], ("b",), 1, v, w),
            ("parts", ("a",), ("b",), None, v, w), ("parts", ("a",), ("b",), 1, row("1 1 -1"), w),
        ):
            self.assertFalse(strata.is_unbalanced(wrong), wrong)
        for value in wrong_values():
            self.assertFalse(strata.is_unbalanced(value))
        table = table_of("factor a p,q,r p q q r", "factor c t,u t t u u")
        free = Strata(model_of(table, "a"), ("c",))
        word, term, index, vector = free.balanced()
        self.assertEqual((word, term, index), ("share", ("a",), 1))
        self.assertTrue(free.is_unbalanced(("share", ("a",), 2, vector)))
        for wrong in (
            ("share", ("a",), 0, vector), ("share", (), 1, vector), ("share", ("a",), 3, vector), ("share", ("a",), -1, vector),
            ("share", ("a",), True, vector),
            ("share", ("a",), 1, row("0 0 0 0")), ("share", ("a",), 1, row("1 -1 -1 1")) if vector != row("1 -1 -1 1") else 0,
            ("share", ("b",), 1, vector), ("share", ("a",), 1, vector, vector), ("share", "a", 1, vector),
            ("parts", ("a",), 1, vector), (("share",), ("a",), 1, vector), ["share", ("a",), 1, vector],
        ):
            self.assertEqual(free.is_unbalanced(wrong), False, wrong)

    def test_many_rows(self):
        lines = list(itertools.product(range(2), repeat=6))
        table = Table({
            **{name: factor(2, [line[at] for line in lines]) for at, name in enumerate("abcdef")},
            "g": factor(8, [line[0] * 4 + (line[1] ^ line[2]) * 2 + (line[3] ^ line[4] ^ line[5]) for line in lines]),
        })
        strata = Strata(model_of(table, "(a + b + c + d + e + f)^2"), ("g", "b"))
        self.assertEqual(strata.balanced(), ("balanced",))


class EqualShareTest(Case):
    def test_beside_the_shares_of_a_model(self):
        rng = random.Random(97)
        words = {}
        for _ in range(800):
            many, size, levels = rng.randint(2, 4), rng.randint(1, 3), rng.randint(2, 4)
            codes = [at for at in range(many) for _ in range(size)]
            if rng.random() < 0.3:
                codes[0] = rng.randrange(many)
            treats = [rng.randrange(levels) for _ in codes]
            if rng.random() < 0.5:
                treats = [at % levels for at in range(len(codes))]
            blocks, factors = factor(many, codes), factor(levels, treats)
            counts = [[0] * many for _ in range(levels)]
            for block, level in zip(codes, treats):
                counts[level][block] += 1
            sizes = {sum(line[at] for line in counts) for at in range(many)} - {0}
            stands = {sum(line) for line in counts}
            squares = {sum(one * one for one in line) for line in counts}
            pairs = {
                sum(one * two for one, two in zip(left, right)) for left, right in itertools.combinations(counts, 2)
            }
            for word, found in (("blocks", sizes), ("levels", stands), ("squares", squares), ("pairs", pairs)):
                if len(found) > 1:
                    words[word] = words.get(word, 0) + 1
                    self.refused((word,), equal_share, blocks, factors)
                    break
            else:
                words["share"] = words.get("share", 0) + 1
                share = equal_share(blocks, factors)
                self.assertEqual(fraction(share), Fraction(squares.pop() - pairs.pop(), stands.pop() * sizes.pop()))
                strata = Strata(model_of(Table({"a": factors, "c": blocks}), "a"), ("c",))
                self.assertEqual(strata.share(("a",)), (("share", r(0)), ("share", share), ("share", r(1) - share)))
        self.assertGreater(min(words.get(word, 0) for word in ("blocks", "levels", "squares", "share")), 1, words)

    def test_each_reason(self):
        self.refused(("blocks",), equal_share, factor(2, (0, 0, 1)), factor(2, (0, 0, 0)))
        self.refused(("levels",), equal_share, factor(3, (0, 0, 2, 2)), factor(3, (0, 1, 0, 1)))
        self.refused(("squares",), equal_share, factor(2, (0, 0, 0, 1, 1, 1)), factor(3, (0, 0, 1, 1, 2, 2)))
        crossed = factor(4, (0, 1, 0, 1, 2, 3, 2, 3))
        self.refused(("pairs",), equal_share, factor(4, (0, 0, 1, 1, 2, 2, 3, 3)), crossed)
        self.assertEqual(equal_share(factor(3, (0, 0, 1, 1, 2, 2)), factor(3, (0, 1, 0, 2, 1, 2))), r("1/4"))
        self.assertEqual(equal_share(factor(3, (0, 0, 1, 1)), factor(2, (0, 1, 0, 1))), r(0))
        self.assertEqual(equal_share(factor(2, (0, 0, 1, 1)), factor(2, (0, 0, 1, 1))), r(1))

    def test_wrong_arguments(self):
        right = factor(2, (0, 1))
        good = (Factor(("x", "y"), (0, 1)),)
        self.all_rejected(InvalidTable, lambda one: equal_share(one, right), right=good)
        self.raises(InvalidTable, equal_share, factor(2, ()), factor(2, ()))
        self.all_rejected(InvalidTable, lambda one: equal_share(right, one), right=good)
        for wrong in (factor(2, ()), factor(2, (0, None)), factor(2, (0, 1, 1)), numbers(1, 2)):
            self.raises(InvalidTable, equal_share, right, wrong)
        for wrong in (factor(2, ()), factor(2, (0, None))):
            self.raises(InvalidTable, equal_share, wrong, right)
