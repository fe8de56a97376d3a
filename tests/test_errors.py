"""errors.py: all error classes with their parameters."""

import inspect
import unittest

from samples import any_values

from offerstands import errors

PARAMETERS = {
    "OtherOffers": "", "TooMany": "most", "BadText": "line", "BadChooser": "part", "BadSet": "thing",
    "BadList": "number", "Against": "one part", "BadTrade": "part", "BadDated": "thing", "BadStream": "thing",
    "BadOffer": "thing", "BadQuestion": "thing", "BadNotebook": "thing", "BadNote": "number",
    "BadCalendar": "thing", "BadWorths": "thing", "NotWished": "offer", "BadPosition": "thing", "BadDeed": "thing",
    "CannotKeep": "paper", "BadShares": "thing", "BadOffice": "thing", "BadRelay": "thing", "BadLists": "thing",
    "BadName": "name", "NoName": "name", "NameTaken": "name", "BadPart": "part", "EditionNotApart": "number paper",
    "Shown": "stream", "Unkept": "promise fault", "BadPromise": "promise", "NoPromise": "promise",
    "NothingToUndo": "", "BadChange": "number", "Full": "offer", "InvalidCommand": "",
}


class ErrorsTest(unittest.TestCase):
    def test_all_are_there_and_no_others(self):
        classes = [name for name, _ in inspect.getmembers(errors, inspect.isclass)]
        self.assertEqual(sorted(classes), sorted(list(PARAMETERS) + ["OfferError"]))

    def test_bases(self):
        self.assertEqual(errors.OfferError.__bases__, (Exception,))
        for name in PARAMETERS:
            self.assertEqual(getattr(errors, name).__bases__, (errors.OfferError,), name)

    def test_parameters_by_position_and_by_name_are_attributes(self):
        for name, words in PARAMETERS.items():
            error, names = getattr(errors, name), words.split()
            for value in any_values():
                values = [value, [value]][:len(names)]
                for made in (error(*values), error(**dict(zip(names, values)))):
                    self.assertEqual(sorted(vars(made)), sorted(names))
                    for key, told in zip(names, values):
                        self.assertIs(getattr(made, key), told)

    def test_each_can_be_raised_and_caught(self):
        for name, words in PARAMETERS.items():
            error = getattr(errors, name)
            with self.assertRaises(errors.OfferError) as caught:
                raise error(*words.split())
            self.assertIs(type(caught.exception), error)


if __name__ == "__main__":
    unittest.main()
