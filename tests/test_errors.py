import unittest

from turnwriter import errors
from turnwriter.errors import BadMachine, MachineError, TooGreat, Twofold

REFUSALS = (BadMachine, TooGreat, Twofold)


class ErrorsTest(unittest.TestCase):
    def test_any_refusal_is_a_value_error(self):
        self.assertTrue(issubclass(MachineError, ValueError))
        self.assertIsNot(MachineError, ValueError)

    def test_each_refusal_is_a_machine_error(self):
        for refusal in REFUSALS:
            self.assertTrue(issubclass(refusal, MachineError), refusal)
            self.assertIsNot(refusal, MachineError)

    def test_no_refusal_is_under_another_one(self):
        for one in REFUSALS:
            for other in REFUSALS:
                if one is not other:
                    self.assertFalse(issubclass(one, other), (one, other))

    def test_each_is_raised_with_words_and_caught_by_any_name_above(self):
        for refusal in REFUSALS:
            for name in (refusal, MachineError, ValueError):
                with self.assertRaises(name) as caught:
                    raise refusal("why")
                self.assertIs(type(caught.exception), refusal)
                self.assertEqual(str(caught.exception), "why")

    def test_each_is_defined_in_its_file(self):
        for name in ("MachineError", "BadMachine", "TooGreat", "Twofold"):
            told = getattr(errors, name)
            self.assertEqual(told.__module__, "turnwriter.errors")
            self.assertEqual(told.__name__, name)


if __name__ == "__main__":
    unittest.main()
