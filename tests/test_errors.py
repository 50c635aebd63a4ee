import unittest

from spotlay import errors
from spotlay.errors import LayError

REFUSALS = [
    "NoJob", "NoLaying", "NoWork", "NoNumber", "NoLine",
    "NoHub", "TooMany", "Nothing", "NoText", "NoRow",
]


class Refusals(unittest.TestCase):
    def test_any_refusal_is_straight_under_value_error(self):
        self.assertEqual(LayError.__bases__, (ValueError,))

    def test_each_is_straight_under_lay_error(self):
        for name in REFUSALS:
            self.assertEqual(getattr(errors, name).__bases__, (LayError,), name)
            self.assertEqual(getattr(errors, name).__name__, name)

    def test_none_is_under_another_one(self):
        classes = [getattr(errors, name) for name in REFUSALS]
        for one in classes:
            for other in classes:
                self.assertEqual(issubclass(one, other), one is other)

    def test_there_are_just_these_ten(self):
        told = [name for name, thing in vars(errors).items() if isinstance(thing, type)]
        self.assertEqual(sorted(told), sorted(REFUSALS + ["LayError"]))

    def test_each_is_made_of_a_text(self):
        for name in REFUSALS + ["LayError"]:
            made = getattr(errors, name)
            for text in ("why", ""):
                with self.assertRaises(made) as caught:
                    raise made(text)
                self.assertEqual(str(caught.exception), text)
                self.assertIsInstance(caught.exception, ValueError)


if __name__ == "__main__":
    unittest.main()
