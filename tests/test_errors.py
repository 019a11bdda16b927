import unittest

from rowtypes import errors


class Errors(unittest.TestCase):
    def test_classes(self):
        names = ["BadText", "TooLarge", "BadPaper", "BadEdit", "BadJournal", "BadArgument"]
        self.assertEqual(errors.RowError.__bases__, (ValueError,))
        for name in names:
            self.assertEqual(getattr(errors, name).__bases__, (errors.RowError,), name)
            self.assertEqual(getattr(errors, name).__module__, "rowtypes.errors")

    def test_none_but_the_base_catches_another(self):
        made = [errors.BadText(1, "unexpected end"), errors.TooLarge(), errors.BadPaper(0),
                errors.BadEdit("no edit"), errors.BadJournal(1), errors.BadArgument("name")]
        for one in made:
            self.assertIsInstance(one, errors.RowError)
            self.assertEqual([type(other) for other in made if isinstance(one, type(other))], [type(one)])

    def test_fields(self):
        text = errors.BadText(7, "unexpected end")
        self.assertEqual((text.token, text.reason), (7, "unexpected end"))
        self.assertEqual(errors.BadPaper(3).node, 3)
        self.assertIsNone(errors.BadPaper(None).node)
        self.assertEqual(errors.BadEdit("no edit").reason, "no edit")
        self.assertEqual(errors.BadJournal(2).place, 2)
        self.assertEqual(errors.BadArgument("brings").reason, "brings")
        self.assertEqual(vars(errors.TooLarge()), {})


if __name__ == "__main__":
    unittest.main()
