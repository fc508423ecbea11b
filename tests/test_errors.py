"""The errors: what each is constructed from, its attributes and its bases."""

import unittest

from savedback import errors

# In the order in which each error is constructed from its fields.
FIELDS = {
    "SaveError": (),
    "BadText": ("line",),
    "BadGame": ("error",),
    "BadPlan": ("error",),
    "BadWorld": ("world",),
    "BadDepths": (),
    "Unsafe": ("depth",),
    "Busy": (),
    "TooManyEdits": (),
    "NothingToUndo": (),
    "NothingToRedo": (),
    "BadEdits": (),
    "BadEdit": ("index",),
    "Rejected": ("index",),
    "NoField": ("field",),
    "NoVersion": ("version",),
}

LOOKUPS = ("NoField", "NoVersion")


def values_of_any_kind():
    return [
        0, -1, 10 ** 59, -(10 ** 400), True, False, None, "", "key", "two\nlines", b"bytes",
        (), (1, "statement"), [], [1, [2]], {}, {"a": (1,)}, {1, 2}, object(), ValueError("inner"),
        errors.Busy, lambda: None,
    ]


def error_class(name):
    return getattr(errors, name)


class Construction(unittest.TestCase):
    def test_fields_are_the_very_objects(self):
        for name, fields in FIELDS.items():
            if not fields:
                continue
            for value in values_of_any_kind():
                with self.subTest(name=name, value=value):
                    error = error_class(name)(value)
                    self.assertEqual(vars(error), {fields[0]: value})
                    self.assertIs(getattr(error, fields[0]), value)

    def test_a_list_is_not_copied(self):
        rows = [1, 2]
        error = errors.BadWorld(rows)
        rows.append(3)
        self.assertIs(error.world, rows)
        self.assertEqual(error.world, [1, 2, 3])

    def test_errors_without_fields(self):
        for name, fields in FIELDS.items():
            if not fields:
                with self.subTest(name=name):
                    self.assertEqual(vars(error_class(name)()), {})

    def test_attributes_are_still_there_when_caught(self):
        for name, fields in FIELDS.items():
            with self.subTest(name=name):
                values = tuple(object() for field in fields)
                with self.assertRaises(error_class(name)) as caught:
                    raise error_class(name)(*values)
                for field, value in zip(fields, values):
                    self.assertIs(getattr(caught.exception, field), value)

    def test_two_errors_share_nothing(self):
        one, other = errors.BadEdit(1), errors.BadEdit(2)
        self.assertEqual((one.index, other.index), (1, 2))

    def test_an_error_has_some_text(self):
        for name, fields in FIELDS.items():
            with self.subTest(name=name):
                self.assertIsInstance(str(error_class(name)(*fields)), str)


class Bases(unittest.TestCase):
    def test_bases_are_just_those_of_the_interface(self):
        for name in FIELDS:
            with self.subTest(name=name):
                if name == "SaveError":
                    base = ValueError
                elif name in LOOKUPS:
                    base = LookupError
                else:
                    base = errors.SaveError
                self.assertEqual(error_class(name).__bases__, (base,))

    def test_a_lookup_error_is_no_value_error(self):
        for name in LOOKUPS:
            with self.subTest(name=name):
                self.assertTrue(issubclass(error_class(name), LookupError))
                self.assertFalse(issubclass(error_class(name), ValueError))
                self.assertFalse(issubclass(error_class(name), errors.SaveError))

    def test_all_others_are_value_errors_and_no_lookup_errors(self):
        for name in FIELDS:
            if name not in LOOKUPS:
                with self.subTest(name=name):
                    self.assertTrue(issubclass(error_class(name), errors.SaveError))
                    self.assertTrue(issubclass(error_class(name), ValueError))
                    self.assertFalse(issubclass(error_class(name), LookupError))

    def test_no_error_derives_from_another_one(self):
        for name in FIELDS:
            for other in FIELDS:
                if name != other and other != "SaveError":
                    with self.subTest(name=name, other=other):
                        self.assertFalse(issubclass(error_class(name), error_class(other)))

    def test_there_are_no_other_errors(self):
        found = [name for name, value in vars(errors).items() if isinstance(value, type)]
        self.assertEqual(sorted(found), sorted(FIELDS))


if __name__ == "__main__":
    unittest.main()
