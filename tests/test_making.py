"""Stage 10: plans made for classes."""

import itertools
import random

from tests.support import Case, wrong_values
from tests.test_plans import NAMES, normal_words, slow_same
from tests.test_words import PRIMES, random_word, slow_span
from worthstead.errors import InvalidPlan, InvalidWords
from worthstead.plans.making import count_right, is_right, least, least_with, struck
from worthstead.plans.plans import Plan
from worthstead.plans.words import normal, times


def mains(many):
    return tuple(tuple(int(at == place) for at in range(many)) for place in range(many))


def all_plans(p, many):
    """All plans for so many factors with the sides 0: the tuples of their reduced words, by numbers of words."""
    found = {0: {()}}
    for rows in range(1, many + 1):
        found[rows] = set()
        for words in found[rows - 1]:
            span = slow_span(p, many, words)
            for word in itertools.product(range(p), repeat=many):
                if word not in span:
                    plan = Plan(p, NAMES[:many], tuple((one, 0) for one in words + (word,)))
                    found[rows].add(tuple(one for one, _ in plan.rows))
    return {rows: sorted(plans) for rows, plans in found.items()}


def slow_right(p, many, words, wanted, beside):
    plan = Plan(p, NAMES[:many], tuple((word, 0) for word in words))
    span = slow_span(p, many, words)
    for at, one in enumerate(wanted):
        if one in span or any(slow_same(plan, span, one, other) for other in wanted[at + 1:] + beside):
            return False
    return True


def random_classes(rng, p, many, most):
    words = normal_words(p, many)
    chosen = rng.sample(words, min(len(words), rng.randint(0, most)))
    cut = rng.randint(0, len(chosen))
    turned = tuple(times(p, word, rng.randint(1, p - 1)) for word in chosen)
    return turned[:cut], turned[cut:]


class MakingTest(Case):
    sizes = ((2, 1), (2, 3), (2, 4), (3, 2), (3, 3), (5, 2), (7, 2))

    @classmethod
    def setUpClass(cls):
        cls.plans = {size: all_plans(*size) for size in cls.sizes}

    def test_by_chance(self):
        rng = random.Random(121)
        for p, many in self.sizes:
            names = NAMES[:many]
            for _ in range(12):
                wanted, beside = random_classes(rng, p, many, 6)
                right = {
                    rows: [words for words in plans if slow_right(p, many, words, wanted, beside)]
                    for rows, plans in self.plans[(p, many)].items()
                }
                most = max(rows for rows in right if right[rows])
                found = least(p, names, wanted, beside=beside)
                self.assertEqual(found.rows, tuple((word, 0) for word in right[most][0]))
                for rows in range(many + 1):
                    self.assertEqual(count_right(p, names, wanted, rows, beside=beside), len(right[rows]))
                    first = least_with(p, names, wanted, rows, beside=beside)
                    if rows > most:
                        self.assertIsNone(first)
                    else:
                        self.assertEqual(first, Plan(p, names, tuple((word, 0) for word in right[rows][0])))
                struck_classes = struck(p, many, wanted, beside=beside)
                for rows, plans in self.plans[(p, many)].items():
                    for words in plans[::7]:
                        plan = Plan(p, names, tuple((word, rng.randrange(p)) for word in words))
                        self.assertEqual(is_right(plan, wanted, beside=beside), words in right[rows])
                        self.assertEqual(words in right[rows], not any(one in struck_classes for one in plan.constants()))
                self.assertGreaterEqual(len(found), 1 + (p - 1) * len(wanted) if wanted else 1)

    def test_struck(self):
        rng = random.Random(122)
        for p, many in self.sizes:
            for _ in range(10):
                wanted, beside = random_classes(rng, p, many, 6)
                normals = [normal(p, word) for word in wanted]
                others = normals + [normal(p, word) for word in beside]
                expected = set(normals)
                for v in normals:
                    for w in others:
                        for c in range(1, p):
                            if w != v:
                                expected.add(normal(p, tuple((a - c * b) % p for a, b in zip(v, w))))
                self.assertEqual(struck(p, many, wanted, beside=beside), tuple(sorted(expected)))
        self.assertEqual(struck(2, 3, ()), ())
        self.assertEqual(struck(2, 3, (), beside=mains(3)), ())
        self.assertEqual(struck(5, 2, ((3, 0),)), ((1, 0),))
        self.assertEqual(struck(3, 2, ((1, 0),), beside=((0, 2),)), ((1, 0), (1, 1), (1, 2)))

    def test_is_right(self):
        half = Plan(2, ("a", "b", "c"), (((1, 1, 1), 1),))
        self.assertTrue(is_right(half, mains(3)))
        self.assertTrue(is_right(half, ()))
        self.assertFalse(is_right(half, ((1, 1, 1),)))
        self.assertFalse(is_right(half, ((1, 0, 0), (0, 1, 1))))
        self.assertFalse(is_right(half, ((1, 0, 0),), beside=((0, 1, 1),)))
        # Those beside may be constant, or the same as one another.
        self.assertTrue(is_right(half, ((1, 0, 0),), beside=((1, 1, 1),)))
        self.assertTrue(is_right(half, ((1, 0, 0),), beside=((0, 1, 0), (1, 0, 1))))

    def test_no_wanted_classes(self):
        for p, many in ((2, 7), (3, 4), (5, 3), (7, 2), (2, 1)):
            names = NAMES[:many]
            for rows in range(many + 1):
                above = below = 1
                for i in range(rows):
                    above, below = above * (p ** many - p ** i), below * (p ** rows - p ** i)
                self.assertEqual(count_right(p, names, (), rows), above // below)
            self.assertEqual(len(least(p, names, ())), 1)
            self.assertEqual(least(p, names, ()).rows, tuple((word, 0) for word in mains(many)))
            self.assertEqual(least_with(p, names, (), 1).rows, (((0,) * (many - 1) + (1,), 0),))

    def test_seven_factors(self):
        names = NAMES[:7]
        found = least(2, names, mains(7))
        self.assertEqual(len(found), 8)
        self.assertEqual([word for word, _ in found.rows], [
            (1, 0, 0, 0, 0, 1, 1), (0, 1, 0, 0, 1, 0, 1), (0, 0, 1, 0, 1, 1, 0), (0, 0, 0, 1, 1, 1, 1),
        ])
        self.assertEqual(count_right(2, names, mains(7), 4), 30)
        pairs = tuple(tuple((a + b) % 2 for a, b in zip(*two)) for two in itertools.combinations(mains(7), 2))
        clear = least(2, names, mains(7), beside=pairs)
        self.assertEqual(len(clear), 16)
        self.assertEqual(clear.strength(), 3)
        self.assertTrue(is_right(clear, mains(7), beside=pairs))
        both = least(2, names, mains(7) + pairs)
        self.assertEqual((both.rows, both.strength()), ((((0, 0, 1, 1, 1, 1, 1), 0),), 4))

    def test_names_in_any_order(self):
        found = least(2, ("c", "a", "b"), mains(3))
        self.assertEqual((found.names, found.rows), (("c", "a", "b"), (((1, 1, 1), 0),)))

    def test_sixty_four_words(self):
        many = normal_words(2, 7)
        self.assertEqual(len(struck(2, 7, tuple(many[:64]))), 127)
        self.raises(InvalidWords, struck, 2, 7, tuple(many[:65]))
        self.assertEqual(struck(2, 7, tuple(many[:1]), beside=tuple(many[1:65]))[0], many[0])
        self.raises(InvalidWords, struck, 2, 7, (), beside=tuple(many[:65]))
        self.assertEqual(len(least(2, NAMES[:7], tuple(many[:63]), beside=tuple(many[63:]))), 128)

    def test_wrong_classes(self):
        plan = Plan(3, ("a", "b"), ())
        calls = (
            lambda one, **more: struck(3, 2, one, **more), lambda one, **more: is_right(plan, one, **more),
            lambda one, **more: least(3, ("a", "b"), one, **more),
            lambda one, **more: least_with(3, ("a", "b"), one, 1, **more),
            lambda one, **more: count_right(3, ("a", "b"), one, 1, **more),
        )
        wrong = [
            [(1, 0)], ((0, 0),), ((1, 0), (0, 0)), ((1, 0), (2, 0)), ((1, 1), (1, 1)), ((1,),), ((1, 0, 0),), ((3, 0),),
            ((True, 0),), ((1, -1),), (1, 0),
        ]
        for call in calls:
            self.all_rejected(InvalidWords, call, right=((),))
            self.all_rejected(InvalidWords, lambda one: call((), beside=one), right=((),))
            for value in wrong:
                self.raises(InvalidWords, call, value)
                self.raises(InvalidWords, call, ((0, 1),), beside=value)
            self.raises(InvalidWords, call, ((1, 2),), beside=((0, 1), (2, 1)))

    def test_wrong_arguments(self):
        for value in wrong_values() + [4]:
            if not (type(value) is int and value in PRIMES):
                self.number(value, struck, value, 9, None)
                self.number(value, least, value, None, None)
                self.number(value, least_with, value, None, None, None)
                self.number(value, count_right, value, None, None, None)
        for value in wrong_values() + [9]:
            if not (type(value) is int and 1 <= value <= 8):
                self.number(value, struck, 2, value, None)
            if not (type(value) is int and 0 <= value <= 2):
                self.number(value, least_with, 2, ("a", "b"), (), value)
                self.number(value, lambda one: count_right(2, ("a", "b"), (), one, beside=3), value)
        self.all_rejected(InvalidPlan, lambda one: is_right(one, None))
        for call in (
            lambda one: least(2, one, None), lambda one: least_with(2, one, None, None), lambda one: count_right(2, one, None, None),
        ):
            self.all_rejected(InvalidPlan, call, right=(("a",),))
            self.raises(InvalidPlan, call, ("a", "a"))
            self.raises(InvalidPlan, call, tuple("abcdefghi"))
        self.raises(InvalidWords, least_with, 2, ("a", "b"), ((0, 0),), 3)
        self.number(3, lambda: least_with(2, ("a", "b"), ((0, 1),), 3, beside=((0, 1),)))
        self.raises(InvalidWords, least_with, 2, ("a", "b"), ((0, 1),), 2, beside=((0, 1),))

    def test_128_runs(self):
        self.too_many(128, least, 2, NAMES, mains(8))
        self.too_many(128, least_with, 2, NAMES, mains(8), 8)
        self.too_many(128, count_right, 2, NAMES, (), 0)
        self.too_many(128, least, 7, NAMES[:3], ())
        self.raises(InvalidWords, least, 2, NAMES, mains(7))
        self.number(9, count_right, 2, NAMES, (), 9)
        self.assertEqual(len(struck(7, 8, mains(8))), 8 + 6 * 28)
        self.assertTrue(is_right(Plan(2, NAMES, (((1,) * 8, 0),)), mains(8)))

    def test_equal_calls(self):
        rng = random.Random(123)
        for _ in range(5):
            words = {normal(2, word) for word in (random_word(rng, 2, 5) for _ in range(6)) if any(word)}
            wanted = tuple(sorted(words))
            one = least(2, NAMES[:5], wanted)
            self.assertEqual(one, least(2, NAMES[:5], tuple(reversed(wanted))))
            self.assertTrue(is_right(one, wanted))
