"""The errors, by the interface under boundbook/errors.py."""

import unittest

from boundbook.errors import BadManuscript, BookError, Refused


class ErrorsTest(unittest.TestCase):
    def test_base_class_is_a_value_error(self):
        self.assertEqual(BookError.__bases__, (ValueError,))

    def test_refused_has_what(self):
        error = Refused("words are wrong")
        self.assertEqual(error.what, "words are wrong")
        self.assertIsInstance(error, BookError)
        self.assertEqual(Refused.__bases__, (BookError,))

    def test_bad_manuscript_has_line_and_what_in_this_order(self):
        error = BadManuscript(3, "order is wrong")
        self.assertEqual((error.line, error.what), (3, "order is wrong"))
        self.assertEqual(BadManuscript.__bases__, (BookError,))

    def test_neither_is_caught_as_the_other(self):
        self.assertNotIsInstance(Refused("x"), BadManuscript)
        self.assertNotIsInstance(BadManuscript(1, "x"), Refused)

    def test_attributes_belong_to_each_object(self):
        first, second = Refused("a"), Refused("b")
        self.assertEqual((first.what, second.what), ("a", "b"))
        self.assertEqual(vars(BadManuscript(7, "c")), {"line": 7, "what": "c"})

    def test_messages_tell_what(self):
        self.assertIn("order is wrong", str(BadManuscript(3, "order is wrong")))
        self.assertIn("no packet", str(Refused("no packet")))


if __name__ == "__main__":
    unittest.main()
