import unittest

from evertreads import errors, limits

BASES = {"WrongValue": ValueError, "WrongName": LookupError, "NoAnswer": ArithmeticError}
KINDS = {
    "WrongValue": {
        "given": ("NotAWalker", "InvalidRow", "InvalidSquare", "InvalidWay", "InvalidTime", "InvalidCount",
                  "InvalidMove", "InvalidPeriod", "InvalidMarks", "InvalidName", "InvalidClaim", "InvalidIndex",
                  "InvalidText"),
        "index": ("InvalidParts", "InvalidDeeds"),
    },
    "WrongName": {"given": ("UnknownName",), "index": ("InUse",)},
    "NoAnswer": {"index": ("Broken",), None: ("NothingToUndo",)},
}


def every_class():
    """(class, its base here, its attribute) for each class with a base here."""
    return [(getattr(errors, name), getattr(errors, base), attribute)
            for base, kinds in KINDS.items() for attribute, names in kinds.items() for name in names]


class LimitsTest(unittest.TestCase):
    def test_values(self):
        self.assertEqual(limits.MOST_ORDERS, 8)
        self.assertEqual(limits.MOST_STEPS, 9)
        self.assertEqual(limits.MOST_COUNT, 100)
        self.assertEqual(limits.MOST_PERIOD, 1000)
        self.assertEqual(limits.MOST_REACH, 50)
        self.assertEqual(limits.MOST_MOVE, 1000)
        self.assertEqual(limits.GREATEST, 10 ** 30)

    def test_kinds(self):
        for name in ("MOST_ORDERS", "MOST_STEPS", "MOST_COUNT", "MOST_PERIOD", "MOST_REACH", "MOST_MOVE", "GREATEST"):
            self.assertIs(type(getattr(limits, name)), int)


class ErrorsTest(unittest.TestCase):
    def test_attribute_by_position_and_by_name(self):
        values = (0, -1, 10 ** 60, True, None, "", "text", b"\x00", (), (1, (2, "x")), [1], {"a": [2]}, {3}, object(),
                  int, len, ValueError("x"), errors.InUse(4))
        for kind, _, attribute in every_class():
            if attribute is None:
                continue
            for value in values:
                with self.subTest(kind=kind.__name__, value=value):
                    self.assertIs(getattr(kind(value), attribute), value)
                    self.assertIs(getattr(kind(**{attribute: value}), attribute), value)

    def test_one_attribute_and_no_other(self):
        for kind, _, attribute in every_class():
            if attribute is None:
                continue
            with self.subTest(kind=kind.__name__):
                self.assertEqual(vars(kind(5)), {attribute: 5})
                wrong = "index" if attribute == "given" else "given"
                for call in (lambda: kind(), lambda: kind(1, 2), lambda: kind(**{wrong: 1})):
                    with self.assertRaises(TypeError):
                        call()

    def test_without_attribute(self):
        for name in (*BASES, "NothingToUndo"):
            kind = getattr(errors, name)
            with self.subTest(kind=name):
                self.assertEqual(vars(kind()), {})
                for call in (lambda: kind(1), lambda: kind("text"), lambda: kind(given=1), lambda: kind(index=1)):
                    with self.assertRaises(TypeError):
                        call()

    def test_bases(self):
        for name, base in BASES.items():
            self.assertEqual(getattr(errors, name).__bases__, (base,))
        for kind, base, _ in every_class():
            with self.subTest(kind=kind.__name__):
                self.assertEqual(kind.__bases__, (base,))

    def test_no_other_classes(self):
        listed = {kind.__name__ for kind, _, _ in every_class()} | set(BASES)
        present = {name for name, value in vars(errors).items() if isinstance(value, type)}
        self.assertEqual(present, listed)
        for name in listed:
            self.assertEqual(getattr(errors, name).__module__, "evertreads.errors")

    def test_raised_and_caught(self):
        for kind, base, attribute in every_class():
            with self.subTest(kind=kind.__name__):
                with self.assertRaises(base) as caught:
                    raise kind() if attribute is None else kind(7)
                self.assertIs(type(caught.exception), kind)


if __name__ == "__main__":
    unittest.main()
