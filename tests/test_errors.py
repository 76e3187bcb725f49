"""[1.1] and [1.2]."""

from touchtowers import errors
from tests.helpers import LINE, PlainTest

MESSAGES = ("InvalidPrime", "InvalidWord", "InvalidPoint", "InvalidRow", "InvalidTable", "InvalidPlane",
            "InvalidCurve", "InvalidWeights", "InvalidOrders", "InvalidPaper", "InvalidTree", "InvalidPlait",
            "InvalidOperation")
KEEPERS = (("ParseError", "index", errors.TowerError), ("InvalidCount", "value", IndexError),
           ("UnknownName", "name", KeyError), ("NothingToUndo", "wanted", RuntimeError),
           ("TooMany", "limit", OverflowError), ("Refused", "reason", ArithmeticError))
ANY_VALUES = (0, True, None, -7, "cusp", "", (), (1, (2, True)), [1, []], {"a": [1]}, LINE, 10 ** 5000)


class ErrorsTest(PlainTest):

    def test_tower_error_is_a_value_error(self):
        self.assertEqual(errors.TowerError.__bases__, (ValueError,))
        self.assertEqual(str(errors.TowerError("a message")), "a message")

    def test_errors_with_a_message(self):
        for name in MESSAGES:
            kind = getattr(errors, name)
            self.assertEqual(kind.__bases__, (errors.TowerError,), name)
            self.assertEqual(kind.__name__, name)
            error = self.raised(kind, self.throw, kind("a message"))
            self.assertEqual(str(error), "a message")

    def test_errors_that_keep_something(self):
        for name, attribute, base in KEEPERS:
            kind = getattr(errors, name)
            self.assertEqual(kind.__bases__, (base,), name)
            for value in ANY_VALUES:
                error = self.raised(kind, self.throw, kind(value))
                self.assertIs(getattr(error, attribute), value)

    def test_defined_where_they_are_listed(self):
        for name in MESSAGES + tuple(keeper[0] for keeper in KEEPERS) + ("TowerError",):
            self.assertEqual(getattr(errors, name).__module__, "touchtowers.errors")

    def throw(self, error):
        raise error
