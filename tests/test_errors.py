"""[4]: the errors, what they derive from and what they keep."""

import unittest

from scaleways import errors
from tests.support import NO_NUMBERS, SOME

FIELDS = {
    "InvalidPassage": "word", "InvalidScale": "word", "InvalidLink": "word", "InvalidSystem": "word",
    "InvalidWay": "at", "InvalidText": "at", "InvalidCommand": None, "Mismatch": None, "Refused": "at",
    "NoName": "name", "NoValue": "value",
}


def created(name, value=3):
    """Return an error of this name."""
    made = getattr(errors, name)
    return made() if FIELDS[name] is None else made(value)


class ErrorsTest(unittest.TestCase):
    def test_base_classes(self):
        self.assertEqual(errors.ScaleError.__bases__, (ValueError,))
        for name in FIELDS:
            bases = {"NoName": KeyError, "NoValue": IndexError}
            self.assertEqual(getattr(errors, name).__bases__, (bases.get(name, errors.ScaleError),), name)

    def test_is_an_instance_of_nothing_else(self):
        for name in FIELDS:
            error = created(name)
            for other in FIELDS:
                self.assertEqual(isinstance(error, getattr(errors, other)), name == other, (name, other))
            self.assertEqual(isinstance(error, errors.ScaleError), name not in ("NoName", "NoValue"))
            self.assertEqual(isinstance(error, ValueError), name not in ("NoName", "NoValue"))
            self.assertEqual(isinstance(error, KeyError), name == "NoName")
            self.assertEqual(isinstance(error, IndexError), name == "NoValue")
            self.assertNotIsInstance(error, TypeError)

    def test_keeps_its_argument_itself(self):
        values = list(NO_NUMBERS) + [0, 7, object(), {}, len, SOME]
        for name, field in FIELDS.items():
            for value in values:
                if field is None:
                    continue
                made = getattr(errors, name)
                self.assertIs(getattr(made(value), field), value)
                self.assertIs(getattr(made(**{field: value}), field), value)

    def test_keeps_nothing_else(self):
        for name, field in FIELDS.items():
            expected = {} if field is None else {field: 3}
            self.assertEqual(vars(created(name)), expected, name)

    def test_takes_just_its_argument(self):
        for name, field in FIELDS.items():
            if field is not None:
                with self.assertRaises(TypeError):
                    getattr(errors, name)()
                with self.assertRaises(TypeError):
                    getattr(errors, name)(1, 2)

    def test_can_be_raised_and_shown(self):
        for name, field in FIELDS.items():
            made = getattr(errors, name)
            with self.assertRaises(made) as caught:
                raise created(name, [1])
            self.assertIsInstance(str(caught.exception), str)
            self.assertIsInstance(repr(caught.exception), str)

    def test_scale_error_itself(self):
        with self.assertRaises(errors.ScaleError):
            raise errors.ScaleError()


if __name__ == "__main__":
    unittest.main()
