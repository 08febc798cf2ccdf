"""Point [5]: the errors."""

import unittest

from unswayed import errors

PLAIN = """BadAlone BadDeed BadEquations BadFamily BadInner BadLive BadLot BadMakers BadName BadOthers BadPoint BadPoly
BadPrime BadRow BadSlant BadTable BadToll LowPrime NoMean NoStep NothingLeft Swayed""".split()
WITH_ATTRIBUTE = {
    "BadHouse": "part", "BadNumber": "part", "BadText": "at", "NoMark": "name", "NoWatch": "name", "TooMany": "most"}


class ErrorsTest(unittest.TestCase):
    def test_there_are_28_errors_below_one(self):
        found = [name for name, thing in vars(errors).items() if isinstance(thing, type)]
        self.assertEqual(sorted(found), sorted(PLAIN + list(WITH_ATTRIBUTE) + ["SwayError"]))
        self.assertEqual(len(found), 29)
        self.assertEqual(errors.SwayError.__bases__, (ValueError,))

    def test_all_stand_directly_below_it(self):
        for name in PLAIN + list(WITH_ATTRIBUTE):
            self.assertEqual(getattr(errors, name).__bases__, (errors.SwayError,), name)

    def test_plain_ones_are_made_of_a_message(self):
        for name in PLAIN + ["SwayError"]:
            error = getattr(errors, name)("what is wrong")
            self.assertEqual(str(error), "what is wrong")
            self.assertEqual(vars(error), {})

    def test_others_are_made_of_their_attribute(self):
        for name, attribute in WITH_ATTRIBUTE.items():
            for value in ("part", None, 300, True, [1, 2], ("a",), {"b": 1}, object()):
                by_place = getattr(errors, name)(value)
                by_name = getattr(errors, name)(**{attribute: value})
                self.assertIs(getattr(by_place, attribute), value)
                self.assertIs(getattr(by_name, attribute), value)
            with self.assertRaises(TypeError):
                getattr(errors, name)()

    def test_they_are_caught_as_value_errors(self):
        for name in PLAIN:
            with self.assertRaises(ValueError):
                raise getattr(errors, name)("what is wrong")
        for name in WITH_ATTRIBUTE:
            with self.assertRaises(errors.SwayError):
                raise getattr(errors, name)(3)


if __name__ == "__main__":
    unittest.main()
