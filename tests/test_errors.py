"""The errors: from what they derive, and what they hold."""

import unittest

from idlewishes import errors
from tests.samples import GREAT, ODD, TRUTHS, Case

ONE_FIELD = {
    "BadMachine": "path",
    "BadWish": "path",
    "BadPath": "value",
    "BadRun": "value",
    "BadNumber": "value",
    "BadPaper": "word",
    "BadRow": "number",
    "BadMenu": "number",
    "BadLog": "place",
}
THINGS = ODD + TRUTHS + (0, GREAT, (), (1, 2), ([],))


class TestErrors(Case):
    def test_wish_error(self):
        self.assertEqual(errors.WishError.__bases__, (ValueError,))
        wrong = errors.WishError("what is wrong")
        self.assertEqual(str(wrong), "what is wrong")
        with self.assertRaises(ValueError):
            raise wrong

    def test_all_derive_directly(self):
        for name in list(ONE_FIELD) + ["BadText"]:
            self.assertEqual(getattr(errors, name).__bases__, (errors.WishError,), name)

    def test_too_great_is_no_wish_error(self):
        self.assertEqual(errors.TooGreat.__bases__, (OverflowError,))
        self.assertFalse(issubclass(errors.TooGreat, errors.WishError))
        self.assertFalse(issubclass(errors.TooGreat, ValueError))

    def test_one_field_by_position_and_by_name(self):
        fields = dict(ONE_FIELD, TooGreat="most")
        for name, field in fields.items():
            made = getattr(errors, name)
            for thing in THINGS:
                for wrong in (made(thing), made(**{field: thing})):
                    self.assertEqual(list(vars(wrong)), [field], name)
                    self.assertIs(getattr(wrong, field), thing, name)
                    str(wrong)
                    repr(wrong)

    def test_one_field_is_wanted(self):
        for name, field in dict(ONE_FIELD, TooGreat="most").items():
            made = getattr(errors, name)
            for args, more in (((), {}), ((1, 2), {}), ((), {"other": 1})):
                with self.assertRaises(TypeError, msg=name):
                    made(*args, **more)

    def test_bad_text_has_two_fields(self):
        for one in THINGS:
            for wrong in (errors.BadText(one, 7), errors.BadText(line=one, word=7)):
                self.assertIs(wrong.line, one)
                self.assertEqual(wrong.word, 7)
            for wrong in (errors.BadText(7, one), errors.BadText(word=one, line=7)):
                self.assertIs(wrong.word, one)
                self.assertEqual(wrong.line, 7)
        self.assertEqual(sorted(vars(errors.BadText(None, None))), ["line", "word"])

    def test_two_errors_share_nothing(self):
        first, second = errors.BadText(1, 2), errors.BadText(3, 4)
        self.assertEqual((first.line, first.word, second.line, second.word), (1, 2, 3, 4))

    def test_raised_and_caught(self):
        for name in list(ONE_FIELD):
            with self.assertRaises(errors.WishError):
                raise getattr(errors, name)(None)
        with self.assertRaises(OverflowError):
            raise errors.TooGreat(6)


if __name__ == "__main__":
    unittest.main()
