"""The classes of errors: point 2 and the heading of errors.py in the interface."""

import inspect
import unittest

from movedstates import errors

PARAMETERS = {
    "BadKind": ["name"], "BadGap": ["gap"], "BadToken": ["text"], "BadName": ["name"], "BadTable": ["row"],
    "EmptyWord": [], "BadLine": ["number"], "Finished": [], "NotFitting": [], "OutOfOrder": ["letter"],
    "BadText": ["text"], "NoLetters": [], "NotUnder": ["kind", "other"], "OtherHolding": [], "Unclear": [],
    "UnknownName": ["name"], "DuplicateName": ["name"], "BadCrew": [], "BadScheme": [], "BadYard": [],
    "BadRanking": [], "BadSheet": [], "NoMessage": ["place"], "NotAgain": [], "CutOpen": [], "NoWay": [],
    "NoCut": ["number"],
}


class ErrorsTest(unittest.TestCase):

    def test_base(self):
        self.assertEqual(errors.MovedError.__bases__, (ValueError,))

    def test_there_are_just_these(self):
        found = [name for name, one in inspect.getmembers(errors, inspect.isclass)]
        self.assertEqual(sorted(found), sorted(list(PARAMETERS) + ["MovedError"]))

    def test_each_stands_directly_under_the_base(self):
        for name in PARAMETERS:
            with self.subTest(name):
                self.assertEqual(getattr(errors, name).__bases__, (errors.MovedError,))
                self.assertEqual(getattr(errors, name).__module__, "movedstates.errors")

    def test_parameters_are_attributes(self):
        for name, parameters in PARAMETERS.items():
            with self.subTest(name):
                values = [object() for _ in parameters]
                error = getattr(errors, name)(*values)
                self.assertEqual(list(vars(error)), parameters)
                for parameter, value in zip(parameters, values):
                    self.assertIs(getattr(error, parameter), value)
                self.assertIsInstance(str(error), str)

    def test_parameters_have_their_names(self):
        for name, parameters in PARAMETERS.items():
            if parameters:
                with self.subTest(name):
                    signature = inspect.signature(getattr(errors, name).__init__)
                    self.assertEqual(list(signature.parameters)[1:], parameters)


if __name__ == "__main__":
    unittest.main()
