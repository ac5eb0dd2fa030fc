import unittest

from clockfolds import errors
from clockfolds.errors import ClockError

ATTRIBUTES = {
    "BadNumber": ["value"], "BadDate": ["value"], "BadDays": ["value"], "BadYearly": ["value"],
    "BadRow": ["index"], "BadOrder": ["year", "index"], "BadZone": ["index"], "BadWord": ["value"],
    "TooFew": ["number"], "BadLog": ["index"], "BadLimit": ["index"], "BadText": ["line"],
}

VALUES = [0, -1, 10 ** 30, True, None, "", "words", [], [1, [2]], (1, 2), {}, {"a": [None]}]


class ErrorsTest(unittest.TestCase):

    def check(self, error, names, values):
        for name, value in zip(names, values):
            self.assertIs(getattr(error, name), value)
        self.assertEqual(sorted(vars(error)), sorted(names))

    def test_attributes_by_position_and_by_name(self):
        for word, names in ATTRIBUTES.items():
            kind = getattr(errors, word)
            for value in VALUES:
                values = [value, "other"][:len(names)]
                self.check(kind(*values), names, values)
                self.check(kind(**dict(zip(names, values))), names, values)

    def test_wrong_number_of_attributes(self):
        for word, names in ATTRIBUTES.items():
            kind = getattr(errors, word)
            self.assertRaises(TypeError, kind)
            self.assertRaises(TypeError, kind, *[0] * (len(names) + 1))

    def test_families(self):
        kinds = [getattr(errors, word) for word in ATTRIBUTES]
        for kind in kinds:
            self.assertEqual(kind.__bases__, (ClockError,))
            error = kind(*[0] * len(ATTRIBUTES[kind.__name__]))
            self.assertIsInstance(error, ValueError)
            self.assertEqual([other for other in kinds if isinstance(error, other)], [kind])

    def test_base(self):
        self.assertEqual(ClockError.__bases__, (ValueError,))
        for arguments in [(), ("word",), ("word", 1, None)]:
            error = ClockError(*arguments)
            self.assertEqual(error.args, ValueError(*arguments).args)
            self.assertEqual(str(error), str(ValueError(*arguments)))

    def test_raised_and_caught(self):
        for word, names in ATTRIBUTES.items():
            kind = getattr(errors, word)
            with self.assertRaises(ClockError) as caught:
                raise kind(*[7] * len(names))
            self.check(caught.exception, names, [7] * len(names))


if __name__ == "__main__":
    unittest.main()
