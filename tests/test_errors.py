import unittest

from kindalone import errors

WITH_TEXT = ("TooMany", "TooMuch", "NoText", "NoKind", "NoLead", "NoName", "Taken", "Ring", "NoBack", "NoRow")
WITH_FIELD = (("Unbounded", "argument", 2), ("Broken", "name", "f"), ("Used", "name", "g"))


class Errors(unittest.TestCase):
    def test_kind_error_is_a_value_error(self):
        self.assertEqual(errors.KindError.__bases__, (ValueError,))

    def test_each_refusal_stands_under_kind_error_alone(self):
        for word in WITH_TEXT + tuple(row[0] for row in WITH_FIELD):
            self.assertEqual(getattr(errors, word).__bases__, (errors.KindError,), word)

    def test_no_refusal_is_caught_as_another_one(self):
        words = WITH_TEXT + tuple(row[0] for row in WITH_FIELD)
        for one in words:
            for other in words:
                below = issubclass(getattr(errors, one), getattr(errors, other))
                self.assertEqual(below, one == other, (one, other))

    def test_made_with_a_text(self):
        for word in WITH_TEXT:
            with self.assertRaises(errors.KindError) as caught:
                raise getattr(errors, word)("why it is so")
            self.assertEqual(str(caught.exception), "why it is so")

    def test_fields(self):
        for word, field, value in WITH_FIELD:
            error = getattr(errors, word)(value)
            self.assertEqual(getattr(error, field), value)
            self.assertEqual(vars(error), {field: value})
            self.assertIsInstance(str(error), str)


if __name__ == "__main__":
    unittest.main()
