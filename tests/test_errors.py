import unittest

from hirefair.errors import FairError, NoDealing, NoHand, NoNote, NoPrices, NoTable, NoTask

REFUSALS = (NoTable, NoDealing, NoPrices, NoHand, NoTask, NoNote)


class ErrorClasses(unittest.TestCase):
    def test_any_refusal_is_a_value_error(self):
        self.assertEqual(FairError.__bases__, (ValueError,))

    def test_each_refusal_stands_under_fair_error(self):
        for refusal in REFUSALS:
            with self.subTest(refusal=refusal.__name__):
                self.assertEqual(refusal.__bases__, (FairError,))

    def test_no_refusal_is_taken_for_another(self):
        for refusal in REFUSALS:
            for other in REFUSALS:
                with self.subTest(refusal=refusal.__name__, other=other.__name__):
                    self.assertEqual(issubclass(refusal, other), refusal is other)


if __name__ == "__main__":
    unittest.main()
