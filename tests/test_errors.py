"""Section 12: the errors."""

import unittest

from leastneeds import errors

TOLD = {
    ValueError: "InvalidForm(word), InvalidDeclaration(index), InvalidPicks(), Repeated(index), BadArms(index), "
    "Misshapen(index), RoleRing(index), BadMembers(index), Grows(index need), Uncovered(index), "
    "Underivable(word need), Clash(index other), Unsupported(index number), Improper(index), InvalidKind(value), "
    "InvalidNeed(value), InvalidScheme(value), InvalidCount(number), InvalidValue(index), InvalidLimit(limit), "
    "InvalidMarked(index), InvalidText(line piece), InvalidDeed(index), InvalidGuard(index), NotClosed(word)",
    LookupError: "Unknown(index word), UnknownName(value), OutOfTerm(place), NoPrimitive(word), NoDefinition(word), "
    "NoCore(where), Unmet(need), OutOfRange(value), Known(index), Missing(index)",
    RuntimeError: "Faulty(where), Wrong(found), Broken(index)",
}
VALUES = (None, 3, ("definition", "all"), ["a"], {"a": 1}, "word")


class TestErrors(unittest.TestCase):
    def test_all(self):
        count = 0
        for base, text in TOLD.items():
            for row in text.split(", "):
                name, fields = row[:-1].split("(")
                fields = fields.split()
                error = getattr(errors, name)
                self.assertEqual(error.__bases__, (base,))
                self.assertEqual(error.__module__, "leastneeds.errors")
                for shift in range(len(VALUES)):
                    values = [VALUES[(shift + k) % len(VALUES)] for k in range(len(fields))]
                    for made in (error(*values), error(**dict(zip(fields, values)))):
                        for field, value in zip(fields, values):
                            self.assertIs(getattr(made, field), value)
                        with self.assertRaises(error):
                            raise made
                if fields:
                    with self.assertRaises(TypeError):
                        error(*[1] * (len(fields) + 1))
                    with self.assertRaises(TypeError):
                        error()
                count += 1
        self.assertEqual(count, 38)


if __name__ == "__main__":
    unittest.main()
