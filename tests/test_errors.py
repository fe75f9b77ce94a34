import unittest

from tillsteps import errors


class TestErrors(unittest.TestCase):
    def test_base(self):
        self.assertEqual(errors.TillError.__bases__, (ValueError,))

    def test_each_is_a_direct_subclass(self):
        names = ["BadSteps", "BadPrice", "BadNumber", "TooWide", "TooMany", "Full", "InvalidText", "BadPrices"]
        for name in names:
            with self.subTest(name=name):
                found = getattr(errors, name)
                self.assertEqual(found.__name__, name)
                self.assertEqual(found.__module__, "tillsteps.errors")
                self.assertEqual(found.__bases__, (errors.TillError,))

    def test_index_of_bad_steps(self):
        for made in (errors.BadSteps, errors.BadPrices):
            for index in (None, 0, 5):
                self.assertEqual(made(index).index, index)
                self.assertEqual(made(index=index).index, index)
            self.assertIsNone(made(None).index)

    def test_most(self):
        for made in (errors.TooWide, errors.TooMany):
            self.assertEqual(made(20000).most, 20000)
            self.assertEqual(made(most=4).most, 4)

    def test_line_and_word(self):
        made = errors.InvalidText(2, 3)
        self.assertEqual((made.line, made.word), (2, 3))
        made = errors.InvalidText(word=3, line=2)
        self.assertEqual((made.line, made.word), (2, 3))

    def test_without_fields(self):
        for made in (errors.BadPrice(), errors.BadNumber(), errors.Full()):
            self.assertIsInstance(made, errors.TillError)
            self.assertEqual(vars(made), {})

    def test_fields_belong_to_each_object(self):
        first, second = errors.BadSteps(1), errors.BadSteps(2)
        self.assertEqual((first.index, second.index), (1, 2))
        self.assertEqual(vars(first), {"index": 1})

    def test_raised_and_caught(self):
        for made in (errors.BadSteps(0), errors.BadPrice(), errors.BadNumber(), errors.TooWide(20000),
                     errors.TooMany(4), errors.Full(), errors.InvalidText(1, 1), errors.BadPrices(None)):
            with self.assertRaises(errors.TillError) as caught:
                raise made
            self.assertIs(caught.exception, made)


if __name__ == "__main__":
    unittest.main()
