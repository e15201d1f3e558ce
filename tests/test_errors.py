"""[4]: the errors."""

import unittest

from helpers import VALUES
from lightsout import errors

WITH_AT = ["InvalidHouse", "InvalidGuest", "InvalidPlan", "InvalidStory", "InvalidLot", "InvalidOrder",
           "InvalidSensor", "InvalidLog", "InvalidText", "Refused"]
ALL = [*WITH_AT, "InvalidSize", "InvalidCommand"]


class Errors(unittest.TestCase):
    def test_bases(self):
        self.assertEqual((Exception,), errors.LightError.__bases__)
        for name in ALL:
            self.assertEqual((errors.LightError,), getattr(errors, name).__bases__, name)
        self.assertEqual((KeyError,), errors.NoName.__bases__)
        self.assertFalse(issubclass(errors.NoName, errors.LightError))

    def test_arguments_are_kept(self):
        for value in VALUES:
            for name in WITH_AT:
                self.assertIs(value, getattr(errors, name)(value).at)
                self.assertIs(value, getattr(errors, name)(at=value).at)
            self.assertIs(value, errors.InvalidSize(value).word)
            self.assertIs(value, errors.InvalidSize(word=value).word)
            self.assertIs(value, errors.NoName(value).name)
            self.assertIs(value, errors.NoName(name=value).name)

    def test_how_many_arguments(self):
        self.assertEqual({}, vars(errors.InvalidCommand()))
        with self.assertRaises(TypeError):
            errors.InvalidCommand(1)
        for name in [*WITH_AT, "InvalidSize", "NoName"]:
            self.assertEqual(1, len(vars(getattr(errors, name)(3))), name)
            with self.assertRaises(TypeError):
                getattr(errors, name)()

    def test_they_can_be_raised_and_caught(self):
        for name in WITH_AT:
            with self.assertRaises(errors.LightError) as caught:
                raise getattr(errors, name)(5)
            self.assertEqual(5, caught.exception.at)
        with self.assertRaises(KeyError):
            raise errors.NoName("x")


if __name__ == "__main__":
    unittest.main()
