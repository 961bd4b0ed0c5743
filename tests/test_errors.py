"""Promise [0.24]: the errors, what they are derived from, and what they keep."""

import unittest

from askedapart import errors

MESSAGES = ("InvalidBits", "InvalidBook", "InvalidLot", "InvalidGraph", "InvalidTurning", "InvalidOperator",
            "InvalidTable", "InvalidRow", "InvalidState", "InvalidText", "InvalidClaim", "InvalidOperation")
KEEPING = (("ParseError", errors.SureError, "spot"), ("InvalidNumber", IndexError, "given"),
           ("UnknownName", LookupError, "wanted"), ("NothingToUndo", LookupError, "done"),
           ("TooMany", OverflowError, "limit"), ("Refused", ArithmeticError, "reason"))


class Errors(unittest.TestCase):
    def test_bases(self):
        self.assertEqual(errors.SureError.__bases__, (ValueError,))
        for name in MESSAGES:
            self.assertEqual(getattr(errors, name).__bases__, (errors.SureError,), name)
        for name, base, _ in KEEPING:
            self.assertEqual(getattr(errors, name).__bases__, (base,), name)

    def test_all_are_defined_there(self):
        for name in ("SureError", *MESSAGES, *[row[0] for row in KEEPING]):
            self.assertEqual(getattr(errors, name).__module__, "askedapart.errors")

    def test_messages(self):
        for name in ("SureError", *MESSAGES):
            found = getattr(errors, name)("what is wrong")
            self.assertEqual(str(found), "what is wrong")
            self.assertIsInstance(found, ValueError)

    def test_what_is_kept(self):
        held = [1, {}]
        for name, _, attribute in KEEPING:
            for value in (0, -1, True, None, "word", ("lot",), ("lines", 3), 10 ** 99, held, "a" * 250000):
                found = getattr(errors, name)(value)
                self.assertIs(getattr(found, attribute), value, name)
            self.assertEqual(getattr(getattr(errors, name)(**{attribute: 5}), attribute), 5)

    def test_nothing_is_missing_to_keep(self):
        for name, _, _ in KEEPING:
            with self.assertRaises(TypeError):
                getattr(errors, name)()

    def test_no_two_share_what_they_keep(self):
        one, other = errors.TooMany(12), errors.TooMany(24)
        self.assertEqual((one.limit, other.limit), (12, 24))

    def test_caught_by_their_bases(self):
        for name, base, _ in KEEPING:
            with self.assertRaises(base):
                raise getattr(errors, name)(1)
        for name in ("InvalidNumber", "UnknownName", "NothingToUndo", "TooMany", "Refused"):
            self.assertFalse(issubclass(getattr(errors, name), ValueError))


if __name__ == "__main__":
    unittest.main()
