"""[0.19]: the errors."""

from tests.support import Case
from worthstead import errors

PLAIN = (
    "InvalidRatio InvalidRows InvalidSpace InvalidTable InvalidFormula InvalidModel InvalidWords InvalidPlan "
    "InvalidLabels InvalidTree InvalidCode InvalidOperation"
).split()
KEEPING = {
    "ParseError": ("spot", errors.WorthError),
    "InvalidNumber": ("given", IndexError),
    "UnknownName": ("wanted", KeyError),
    "NothingToUndo": ("many", LookupError),
    "TooMany": ("limit", OverflowError),
    "Refused": ("reason", ArithmeticError),
}


class ErrorsTest(Case):
    def test_bases(self):
        self.assertEqual(errors.WorthError.__bases__, (ValueError,))
        for name in PLAIN + ["ParseError"]:
            self.assertEqual(getattr(errors, name).__bases__, (errors.WorthError,))
        for name, (_, base) in KEEPING.items():
            self.assertEqual(getattr(errors, name).__bases__, (base,))

    def test_not_from_one_another(self):
        names = PLAIN + list(KEEPING)
        for name in names:
            for other in names:
                if name != other:
                    self.assertFalse(issubclass(getattr(errors, name), getattr(errors, other)))
        for name in ("InvalidNumber", "UnknownName", "NothingToUndo", "TooMany", "Refused"):
            self.assertFalse(issubclass(getattr(errors, name), ValueError))

    def test_defined_there(self):
        for name in PLAIN + list(KEEPING) + ["WorthError"]:
            self.assertEqual(getattr(errors, name).__module__, "worthstead.errors")

    def test_what_is_kept(self):
        for name, (attribute, _) in KEEPING.items():
            for value in (None, 0, True, "a", ("free", (1, 2)), [1], {"a": []}, 10 ** 100):
                self.assertIs(getattr(getattr(errors, name)(value), attribute), value)

    def test_messages(self):
        for name in PLAIN + ["WorthError"]:
            self.assertEqual(str(getattr(errors, name)("what is wrong")), "what is wrong")
