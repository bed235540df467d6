"""Promise 1.05: the errors of the package [0.8]."""

import inspect
import unittest

import sparedproducts.errors as errors
from sparedproducts.errors import PairError

FORMS = {
    "BadRatio": ("what",), "DividedByNought": (), "BadFigures": ("prime",), "BadNumber": (),
    "BadTable": ("index", "what"), "BadLetters": ("what", "index"), "BadPair": ("what",),
    "BadKept": ("what", "index"), "Unlike": (), "BadProgram": ("index", "what"), "BadText": ("place",),
    "NotOnce": (), "BadSize": (), "BadPoly": ("index", "what"), "NotSquare": ("rows", "columns"),
    "BadChange": ("what",), "BadPoints": ("index",), "BadMany": ("most",), "BadBlock": (), "NotApart": (),
    "NoEnd": (), "NoPoint": ("index",), "BadChoice": ("block", "index"), "BadSide": (),
    "BadRow": ("what", "index"), "BadTaps": ("index",), "BadSplit": (), "NotSuch": (), "NotFractions": (),
    "BadPrime": ("index",), "TooWide": (), "BadTimes": (), "BadPairs": (), "NotShared": (),
    "NotSmall": ("what",), "BadProducts": ("index",), "BadPlaces": ("index",), "BadCode": ("index", "what"),
    "BadEdit": ("index", "what"), "BadGoal": ("index",), "NotRight": ("cell",), "NothingDone": (),
}


class ErrorsTest(unittest.TestCase):

    def test_there_are_forty_two_and_no_others(self):
        found = {name for name, thing in vars(errors).items() if inspect.isclass(thing)}
        self.assertEqual(found, set(FORMS) | {"PairError"})
        self.assertEqual(len(FORMS), 42)

    def test_each_stands_straight_under_pair_error(self):
        self.assertEqual(PairError.__bases__, (ValueError,))
        for name in FORMS:
            self.assertEqual(getattr(errors, name).__bases__, (PairError,), name)

    def test_attributes_in_their_order_and_unchecked(self):
        for name, attributes in FORMS.items():
            given = [object() for _ in attributes]
            error = getattr(errors, name)(*given)
            self.assertIsInstance(error, ValueError)
            for attribute, thing in zip(attributes, given):
                self.assertIs(getattr(error, attribute), thing, name)
            self.assertEqual(set(vars(error)), set(attributes), name)

    def test_attributes_by_their_names(self):
        for name, attributes in FORMS.items():
            error = getattr(errors, name)(**{attribute: attribute for attribute in attributes})
            self.assertEqual(vars(error), {attribute: attribute for attribute in attributes})

    def test_too_few_and_too_many_are_refused(self):
        for name, attributes in FORMS.items():
            with self.assertRaises(TypeError):
                getattr(errors, name)(*range(len(attributes) + 1)) if attributes else getattr(errors, name)(what=1)
            if attributes:
                with self.assertRaises(TypeError):
                    getattr(errors, name)()


if __name__ == "__main__":
    unittest.main()
