import unittest

from endsmeet import errors

NAMES = (
    'BadSheet', 'BadBlock', 'BadKind', 'BadText', 'BadRecipe', 'BadAmounts', 'BadPiece', 'BadLinks', 'BadPrices',
    'BadNumber', 'NotBalanced', 'NotClosed', 'NoFinish', 'Misfitting', 'TooLarge', 'BadChain', 'BadWeights',
    'BadFamilies', 'NoBridge',
)


class Errors(unittest.TestCase):
    def test_all_are_direct_subclasses(self):
        self.assertEqual(errors.EndsmeetError.__bases__, (ValueError,))
        for name in NAMES:
            self.assertEqual(getattr(errors, name).__bases__, (errors.EndsmeetError,), name)

    def test_attributes(self):
        error = errors.BadText(1, 7)
        self.assertEqual((error.line, error.column), (1, 7))
        self.assertEqual(errors.NoFinish('a').kind, 'a')

    def test_messages_can_be_shown(self):
        for error in (errors.BadText(1, 7), errors.NoFinish('a'), errors.BadSheet('no')):
            self.assertIsInstance(str(error), str)
