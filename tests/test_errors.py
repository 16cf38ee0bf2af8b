import unittest

from tellscolumns.errors import BadParts, BadRules, BadSet, BadTable, BadText, TellError, Unlike


class Errors(unittest.TestCase):
    def test_bases(self):
        self.assertEqual(TellError.__bases__, (ValueError,))
        for kind in [BadRules, BadSet, BadParts, BadTable, Unlike, BadText]:
            self.assertEqual(kind.__bases__, (TellError,), kind)

    def test_they_are_six(self):
        kinds = {BadRules, BadSet, BadParts, BadTable, Unlike, BadText}
        self.assertEqual(len(kinds), 6)

    def test_names(self):
        kinds = [TellError, BadRules, BadSet, BadParts, BadTable, Unlike, BadText]
        names = ["TellError", "BadRules", "BadSet", "BadParts", "BadTable", "Unlike", "BadText"]
        self.assertEqual([kind.__name__ for kind in kinds], names)
