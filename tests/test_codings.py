"""Stage 5: codings."""

from tests.support import Case, row, texts, wrong_values
from worthstead.errors import InvalidModel
from worthstead.exact.ratios import Ratio
from worthstead.models.codings import CODINGS, coding_row


def told(word, total):
    return range(1, total) if word in ("first", "steps") else range(total - 1)


class CodingTest(Case):
    def test_two_levels(self):
        found = {word: [texts(coding_row(word, 2, level))[0] for level in range(2)] for word in CODINGS}
        self.assertEqual(found, {"first": ["0", "1"], "last": ["1", "0"], "sum": ["1", "-1"], "steps": ["-1", "1"]})

    def test_three_levels(self):
        self.assertEqual([coding_row("first", 3, level) for level in range(3)], [row("0 0"), row("1 0"), row("0 1")])
        self.assertEqual([coding_row("last", 3, level) for level in range(3)], [row("1 0"), row("0 1"), row("0 0")])
        self.assertEqual([coding_row("sum", 3, level) for level in range(3)], [row("1 0"), row("0 1"), row("-1 -1")])
        self.assertEqual(
            [coding_row("steps", 3, level) for level in range(3)], [row("-1 -1/2"), row("1 -1/2"), row("0 1")]
        )

    def test_each_level_of_many(self):
        for total in (2, 3, 4, 12):
            for level in range(total):
                for word in CODINGS:
                    found = coding_row(word, total, level)
                    self.assertIsInstance(found, tuple)
                    self.assertEqual(len(found), total - 1)
                    for ratio, at in zip(found, told(word, total)):
                        wanted = Ratio(1) if at == level else Ratio(0)
                        if word == "sum" and level == total - 1:
                            wanted = Ratio(-1)
                        if word == "steps" and level < at:
                            wanted = Ratio(-1, at)
                        self.assertEqual(ratio, wanted, (word, total, level, at))

    def test_wrong_arguments(self):
        self.all_rejected(InvalidModel, lambda word: coding_row(word, 3, 0), right=("first",))
        for value in wrong_values():
            if not (type(value) is int and value == 7):
                self.number(value, coding_row, "first", value, 0)
        for value in wrong_values():
            if not (type(value) is int and value in (0, 1)):
                self.number(value, coding_row, "sum", 2, value)
        for total in (1, 13, -2):
            self.number(total, coding_row, "last", total, 0)
        for level in (-1, 12):
            self.number(level, coding_row, "last", 12, level)
        self.assertEqual(len(coding_row("last", 12, 11)), 11)

    def test_several_wrong(self):
        self.raises(InvalidModel, coding_row, "none", 1, -1)
        self.number(1, coding_row, "first", 1, -1)
        self.number(True, coding_row, "first", True, None)
        self.number(-1, coding_row, "first", 2, -1)
