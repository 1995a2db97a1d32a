"""The errors that the document names, [1]."""

import unittest

from deducehall import errors

NAMES = ("BadSign", "BadRule", "BadKind", "BadLayer", "NoSuch", "BadDeed", "BadGround", "BadStore", "Broken", "BadSize")


class ErrorsTest(unittest.TestCase):
    def test_all_stand_under_one(self):
        for name in NAMES:
            with self.subTest(name=name):
                error = getattr(errors, name)
                self.assertEqual(error.__bases__, (errors.DeduceFault,))
                self.assertEqual(str(error("what is wrong")), "what is wrong")

    def test_the_one_is_a_value_error(self):
        self.assertEqual(errors.DeduceFault.__bases__, (ValueError,))

    def test_none_is_another(self):
        for name in NAMES:
            for other in NAMES:
                if name != other:
                    with self.assertRaises(errors.DeduceFault):
                        try:
                            raise getattr(errors, name)("one")
                        except getattr(errors, other):
                            self.fail(f"{name} caught as {other}")


if __name__ == "__main__":
    unittest.main()
