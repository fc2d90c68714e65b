"""The errors of all parts: point 1.11 and the interface of needonce/errors.py."""

import unittest

from needonce import errors

# Each class with its base class and its fields, as the interface lists them.
CLASSES = (
    ("NeedError", ValueError, None),
    ("TextError", errors.NeedError, ("row", "column")),
    ("BadCharacter", errors.TextError, ("row", "column")),
    ("BadNumber", errors.TextError, ("row", "column")),
    ("Unexpected", errors.TextError, ("row", "column")),
    ("ScopeError", errors.NeedError, ("kind", "name")),
    ("DoubleName", errors.ScopeError, ("kind", "name")),
    ("UnknownName", errors.ScopeError, ("kind", "name")),
    ("WrongCount", errors.ScopeError, ("kind", "name")),
    ("MissingName", errors.ScopeError, ("kind", "name")),
    ("KindError", errors.NeedError, ("name",)),
    ("IllTyped", errors.KindError, ("name",)),
    ("NoInstance", errors.KindError, ("name",)),
    ("Ambiguous", errors.KindError, ("name",)),
    ("CannotUnify", errors.NeedError, ()),
    ("CodeError", errors.NeedError, None),
    ("Unknown", errors.CodeError, ("name",)),
    ("BadArity", errors.CodeError, ("name",)),
    ("BadCode", errors.CodeError, ()),
    ("BadImage", errors.CodeError, ()),
    ("CoreError", errors.NeedError, None),
    ("BadCore", errors.CoreError, ("name",)),
    ("UnboundName", errors.CoreError, ("name",)),
    ("TwiceBound", errors.CoreError, ("name",)),
    ("MainIsFunction", errors.CoreError, ()),
)

VALUES = {"row": 3, "column": 14, "kind": "value", "name": "x"}


class ErrorsTest(unittest.TestCase):
    def test_bases(self):
        for name, base, _ in CLASSES:
            with self.subTest(name):
                made = getattr(errors, name)
                self.assertTrue(issubclass(made, base))
                self.assertTrue(issubclass(made, errors.NeedError))
                self.assertTrue(issubclass(made, ValueError))
                self.assertEqual(made.__module__, "needonce.errors")

    def test_no_other_bases(self):
        families = (errors.TextError, errors.ScopeError, errors.KindError, errors.CodeError, errors.CoreError)
        for name, base, _ in CLASSES:
            made = getattr(errors, name)
            for family in families:
                with self.subTest(name=name, family=family.__name__):
                    self.assertEqual(issubclass(made, family), made is family or issubclass(base, family))

    def test_fields(self):
        for name, _, fields in CLASSES:
            if fields is None:
                continue
            with self.subTest(name):
                made = getattr(errors, name)(*[VALUES[field] for field in fields])
                for field in fields:
                    self.assertEqual(getattr(made, field), VALUES[field])
                with self.assertRaises(errors.NeedError):
                    raise made

    def test_fields_by_keyword(self):
        for name, _, fields in CLASSES:
            if not fields:
                continue
            with self.subTest(name):
                made = getattr(errors, name)(**{field: VALUES[field] for field in fields})
                for field in fields:
                    self.assertEqual(getattr(made, field), VALUES[field])

    def test_wrong_number_of_arguments(self):
        for name, _, fields in CLASSES:
            if not fields:
                continue
            with self.subTest(name):
                with self.assertRaises(TypeError):
                    getattr(errors, name)()

    def test_messages_tell_the_fields(self):
        self.assertEqual(str(errors.Unexpected(3, 14)), "row 3, column 14")
        self.assertEqual(str(errors.DoubleName("value", "x")), "value x")
        self.assertEqual(str(errors.IllTyped("f")), "f")


if __name__ == "__main__":
    unittest.main()
