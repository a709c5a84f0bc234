"""The list of all error classes, with the arguments of their constructors."""

import unittest

from saggar import errors

FIELDS = {
    "BadWord": ["word"],
    "NoRoom": ["need"],
    "NoNumber": ["limit"],
    "NoSymbol": ["limit"],
    "Malformed": ["at"],
    "Oversized": ["limit"],
    "Unknown": ["name", "at"],
    "Twice": ["name", "at"],
    "Fixed": ["name", "at"],
    "BadClass": ["why"],
    "BadMethod": ["owner", "selector", "error"],
    "BadCode": ["why", "at"],
    "BadImage": ["why"],
    "Wrong": ["why"],
    "Trouble": ["what"],
}


class Errors(unittest.TestCase):
    def test_base_class(self):
        self.assertEqual(errors.SaggarError.__bases__, (ValueError,))

    def test_each_class_is_a_direct_subclass_with_its_fields(self):
        for name, fields in FIELDS.items():
            with self.subTest(name=name):
                kind = getattr(errors, name)
                self.assertEqual(kind.__bases__, (errors.SaggarError,))
                self.assertEqual(kind.__module__, "saggar.errors")
                values = [object() for _ in fields]
                error = kind(*values)
                self.assertEqual(vars(error), dict(zip(fields, values)))
                named = kind(**dict(zip(fields, values)))
                self.assertEqual(vars(named), dict(zip(fields, values)))

    def test_the_arguments_are_needed(self):
        for name, fields in FIELDS.items():
            with self.subTest(name=name):
                with self.assertRaises(TypeError):
                    getattr(errors, name)()
                with self.assertRaises(TypeError):
                    getattr(errors, name)(*([1] * (len(fields) + 1)))

    def test_no_other_classes(self):
        found = [name for name, value in vars(errors).items() if isinstance(value, type)]
        self.assertEqual(sorted(found), sorted(list(FIELDS) + ["SaggarError"]))


if __name__ == "__main__":
    unittest.main()
