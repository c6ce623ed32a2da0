import unittest

from cheapread.errors import BadChain, BadGrammar, BadWords, ReadError

REFUSALS = (BadChain, BadWords, BadGrammar)


class Errors(unittest.TestCase):
    def test_any_refusal_is_a_value_error(self):
        self.assertEqual(ReadError.__bases__, (ValueError,))

    def test_each_is_below_read_error(self):
        for error in REFUSALS:
            self.assertTrue(issubclass(error, ReadError), error)
            self.assertIsNot(error, ReadError)

    def test_none_is_below_another(self):
        for one in REFUSALS:
            for other in REFUSALS:
                self.assertEqual(issubclass(one, other), one.__name__ == other.__name__)

    def test_they_can_be_raised_with_words(self):
        for error in REFUSALS:
            with self.assertRaises(ReadError) as caught:
                raise error("why not")
            self.assertEqual(str(caught.exception), "why not")


if __name__ == "__main__":
    unittest.main()
