"""Stage 9: words."""

import itertools
import random

from tests.support import Case, r, wrong_values
from worthstead.errors import InvalidWords
from worthstead.plans.words import is_word, normal, plus, reduced, span_of_words, support, times

PRIMES = (2, 3, 5, 7)


def random_word(rng, p, many):
    return tuple(rng.randrange(p) for _ in range(many))


def slow_span(p, many, words):
    return sorted({
        tuple(sum(by * word[at] for by, word in zip(weights, words)) % p for at in range(many))
        for weights in itertools.product(range(p), repeat=len(words))
    })


class WordTest(Case):
    def wrong_primes(self, call):
        for value in wrong_values() + [4, 9, 11, -3, 10 ** 61]:
            if not (type(value) is int and value in PRIMES):
                self.number(value, call, value)

    def wrong_words(self, call, p=3, many=None):
        """All wrong words are rejected; many is how many entries are wanted, None for one to eight."""
        for value in wrong_values():
            if not (many in (None, 1) and value == (0,) and type(value[0]) is int):
                self.raises(InvalidWords, call, value)
        right = (1,) * (many or 2)
        for wrong in (
            list(right), right[1:] + (p,), right[1:] + (-1,), right[1:] + (True,), right[1:] + (None,), right[1:] + ("1",),
            right[1:] + (r(1),), right[1:] + ((1,),), (1,) * 9, right[1:] + (10 ** 60,),
        ):
            self.raises(InvalidWords, call, wrong)

    def test_is_word(self):
        for p in PRIMES:
            for many in range(1, 9):
                self.assertTrue(is_word(p, many, (p - 1,) * many))
                self.assertTrue(is_word(p, many, (0,) * many))
                for wrong in ((0,) * (many + 1), (0,) * (many - 1), (p,) * many, (-1,) * many, [0] * many, (True,) * many, "0" * many):
                    self.assertFalse(is_word(p, many, wrong))
        for value in wrong_values():
            self.assertEqual(is_word(2, 1, value), value == (0,) and type(value[0]) is int)
        self.wrong_primes(lambda p: is_word(p, 99, ()))
        for value in wrong_values() + [9]:
            if not (type(value) is int and 1 <= value <= 8):
                self.number(value, is_word, 2, value, ())

    def test_support(self):
        self.assertEqual(support((0, 6, 1, 0, 2)), (1, 2, 4))
        self.assertEqual(support((0,)), ())
        self.assertEqual(support((1,) * 8), tuple(range(8)))
        self.wrong_words(support, p=7)
        self.raises(InvalidWords, support, ())

    def test_normal(self):
        for p in PRIMES:
            for many in (1, 2, 3):
                for word in itertools.product(range(p), repeat=many):
                    if not any(word):
                        self.raises(InvalidWords, normal, p, word)
                        continue
                    found = normal(p, word)
                    self.assertEqual([one for one in found if one][0], 1)
                    self.assertIn(found, [times(p, word, by) for by in range(1, p)])
        self.assertEqual(normal(7, (0, 3, 6, 0, 0, 1, 2, 5)), (0, 1, 2, 0, 0, 5, 3, 4))
        self.wrong_primes(lambda p: normal(p, None))
        self.wrong_words(lambda word: normal(3, word))

    def test_times(self):
        rng = random.Random(101)
        for p in PRIMES:
            for by in (0, 1, -1, 2, p, -p, 7 ** 30, -(10 ** 60) + 1):
                word = random_word(rng, p, rng.randint(1, 8))
                self.assertEqual(times(p, word, by), tuple(one * by % p for one in word))
        self.wrong_primes(lambda p: times(p, None, None))
        self.wrong_words(lambda word: times(3, word, None))
        for value in wrong_values():
            if not (type(value) is int and len(str(abs(value))) <= 60):
                self.number(value, times, 3, (1, 2), value)

    def test_plus(self):
        rng = random.Random(102)
        for p in PRIMES:
            for many in range(1, 9):
                one, other = random_word(rng, p, many), random_word(rng, p, many)
                self.assertEqual(plus(p, one, other), tuple((a + b) % p for a, b in zip(one, other)))
        self.wrong_primes(lambda p: plus(p, None, None))
        self.wrong_words(lambda word: plus(3, word, (1,)))
        self.wrong_words(lambda word: plus(3, (1, 2), word), many=2)
        self.raises(InvalidWords, plus, 3, (1, 2), (1,))
        self.raises(InvalidWords, plus, 3, (1, 2), (1, 2, 0))

    def test_span_of_words(self):
        rng = random.Random(103)
        for _ in range(40):
            p, many = rng.choice((2, 3)), rng.randint(1, 5)
            words = tuple(random_word(rng, p, many) for _ in range(rng.randint(0, 5)))
            self.assertEqual(span_of_words(p, many, words), tuple(slow_span(p, many, words)))
        self.assertEqual(span_of_words(5, 3, ()), ((0, 0, 0),))
        self.assertEqual(span_of_words(5, 2, ((1, 2), (2, 4), (0, 0))), ((0, 0), (1, 2), (2, 4), (3, 1), (4, 3)))

    def test_4096_sums(self):
        ones = lambda many, size: tuple(tuple(int(at == place) for at in range(size)) for place in range(many))  # noqa: E731
        self.assertEqual(len(span_of_words(2, 8, ones(8, 8))), 256)
        self.assertEqual(len(span_of_words(3, 8, ones(7, 8))), 2187)
        self.too_many(4096, span_of_words, 3, 8, ones(8, 8))
        self.assertEqual(len(span_of_words(5, 6, ones(5, 6) + ones(3, 6))), 3125)
        self.too_many(4096, span_of_words, 5, 6, ones(6, 6))
        self.assertEqual(len(span_of_words(7, 5, ones(4, 5))), 2401)
        self.too_many(4096, span_of_words, 7, 5, ones(5, 5))
        self.raises(InvalidWords, span_of_words, 7, 5, ones(5, 5) + ones(4, 5))

    def test_span_errors(self):
        self.wrong_primes(lambda p: span_of_words(p, 9, None))
        self.number(9, span_of_words, 2, 9, None)
        self.all_rejected(InvalidWords, lambda one: span_of_words(2, 2, one), right=((),))
        self.wrong_words(lambda word: span_of_words(3, 2, (word,)), many=2)
        self.raises(InvalidWords, span_of_words, 2, 2, ((0, 1),) * 9)
        self.raises(InvalidWords, span_of_words, 2, 2, [(0, 1)])
        self.assertEqual(len(span_of_words(2, 2, ((0, 1),) * 8)), 2)


class ReducedTest(Case):
    def solutions(self, p, many, rows):
        return [
            run for run in itertools.product(range(p), repeat=many)
            if all(sum(a * b for a, b in zip(word, run)) % p == side for word, side in rows)
        ]

    def test_by_chance(self):
        rng = random.Random(104)
        refused = 0
        for _ in range(150):
            p, many = rng.choice((2, 3, 5)), rng.randint(1, 4)
            rows = tuple((random_word(rng, p, many), rng.randrange(p)) for _ in range(rng.randint(0, many)))
            hangs = [
                at for at in range(len(rows))
                if rows[at][0] in slow_span(p, many, [word for word, _ in rows[:at]])
            ]
            if hangs:
                refused += 1
                self.refused(("hangs", hangs[0]), reduced, p, many, rows)
                continue
            found = reduced(p, many, rows)
            self.assertEqual(self.solutions(p, many, found), self.solutions(p, many, rows))
            leads = [support(word)[0] for word, _ in found]
            self.assertEqual(leads, sorted(set(leads)))
            for at, (word, _) in enumerate(found):
                self.assertEqual([word[lead] for lead in leads], [int(one == at) for one in range(len(leads))])
        self.assertGreater(refused, 10)

    def test_small_ones(self):
        self.assertEqual(reduced(3, 3, ()), ())
        self.assertEqual(reduced(3, 3, (((2, 1, 0), 1), ((0, 0, 2), 2))), (((1, 2, 0), 2), ((0, 0, 1), 1)))
        self.assertEqual(reduced(2, 2, (((1, 1), 1), ((1, 0), 1))), (((1, 0), 1), ((0, 1), 0)))
        self.refused(("hangs", 0), reduced, 2, 2, (((0, 0), 0), ((0, 0), 1)))
        self.refused(("hangs", 1), reduced, 3, 2, (((1, 2), 0), ((2, 1), 1)))

    def test_wrong_arguments(self):
        for value in wrong_values() + [4]:
            if not (type(value) is int and value in PRIMES):
                self.number(value, reduced, value, 9, None)
                self.number(value, reduced, value, 1, ())
        self.number(0, reduced, 2, 0, None)
        self.all_rejected(InvalidWords, lambda one: reduced(2, 2, one), right=((),))
        right = ((1, 0), 0)
        for wrong in (
            [right], (right, right, right), ([(1, 0), 0],), (((1, 0),),), (((1, 0), 2),), (((1, 0), -1),), (((1, 0), True),),
            (((1, 0), None),), (((1,), 0),), (((1, 0, 0), 0),), (((2, 0), 0),), (((True, 0), 0),), ((1, 0),), (((1, 0), 0, 0),),
        ):
            self.raises(InvalidWords, reduced, 2, 2, wrong)
