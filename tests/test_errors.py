import unittest

from bridgeyard import errors

PLAIN = ("BadCount", "BadBridge", "BadRoad", "BadLan", "BadHost", "Plugged", "NotPlugged", "IsDown", "IsUp")
WITH_VALUES = {"BadPlan": ("part", "number"), "BadDeed": ("number",), "BadText": ("row",)}


class ErrorsTest(unittest.TestCase):
    def test_any_refusal_is_a_value_error(self):
        self.assertEqual(errors.YardError.__bases__, (ValueError,))

    def test_none_stands_under_another(self):
        for word in PLAIN + tuple(WITH_VALUES):
            with self.subTest(word):
                self.assertEqual(getattr(errors, word).__bases__, (errors.YardError,))

    def test_values(self):
        for word, values in WITH_VALUES.items():
            handed = tuple(range(5, 5 + len(values)))
            error = getattr(errors, word)(*handed)
            with self.subTest(word):
                self.assertEqual(tuple(getattr(error, value) for value in values), handed)
                self.assertTrue(str(error))

    def test_plain_ones_take_a_text(self):
        for word in PLAIN:
            with self.subTest(word):
                self.assertEqual(str(getattr(errors, word)("why")), "why")


if __name__ == "__main__":
    unittest.main()
