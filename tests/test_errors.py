import unittest

from mixedbags import errors

FIELDS = {
    "InvalidPaper": ("PaperError", ("word", "at")),
    "UnknownName": ("HistoryError", ("name",)),
    "MomentOutOfRange": ("HistoryError", ("moment",)),
    "NotAReport": ("HistoryError", ("position",)),
    "InvalidEvent": ("HistoryError", ("event", "reason")),
    "NothingToUndo": ("HistoryError", ("steps",)),
    "InvalidText": ("TextError", ("line", "field")),
    "InvalidRow": ("TextError", ("row",)),
}


class Stubborn:
    """A value that fails as soon as anybody inspects it."""

    def __eq__(self, other):
        raise AssertionError("compared")

    def __repr__(self):
        raise AssertionError("shown")

    def __bool__(self):
        raise AssertionError("tested")

    def __len__(self):
        raise AssertionError("measured")

    __hash__ = None


class ErrorsTest(unittest.TestCase):
    def test_families(self):
        self.assertEqual(errors.BagsError.__bases__, (ValueError,))
        for family in (errors.PaperError, errors.HistoryError, errors.TextError):
            self.assertEqual(family.__bases__, (errors.BagsError,))

    def test_each_error_derives_directly_from_its_family(self):
        for name, (family, _) in FIELDS.items():
            self.assertEqual(getattr(errors, name).__bases__, (getattr(errors, family),), name)

    def test_fields_by_position_and_by_name_are_the_very_objects(self):
        for name, (family, fields) in FIELDS.items():
            objects = [Stubborn() for _ in fields]
            by_position = getattr(errors, name)(*objects)
            by_name = getattr(errors, name)(**dict(zip(fields, objects)))
            for error in (by_position, by_name):
                self.assertEqual(tuple(vars(error)), fields)
                for field, value in zip(fields, objects):
                    self.assertIs(getattr(error, field), value, name)

    def test_exactly_the_fields(self):
        for name, (_, fields) in FIELDS.items():
            with self.assertRaises(TypeError):
                getattr(errors, name)(*range(len(fields) - 1))
            with self.assertRaises(TypeError):
                getattr(errors, name)(*range(len(fields) + 1))

    def test_lists_are_kept_not_copied(self):
        event = ["mix", []]
        error = errors.InvalidEvent(event, "shape")
        self.assertIs(error.event, event)
        self.assertEqual(event, ["mix", []])

    def test_caught_by_class_family_and_base(self):
        for kind in (errors.InvalidText, errors.TextError, errors.BagsError, ValueError):
            with self.assertRaises(kind):
                raise errors.InvalidText(3, 4)
        for kind in (errors.PaperError, errors.HistoryError):
            self.assertFalse(issubclass(errors.InvalidText, kind))


if __name__ == "__main__":
    unittest.main()
