"""Words and wrapping: point 5."""

import random
import unittest

from boundbook.words import are_words, length_of, line_count, longest, narrowest, wrap
from support import plain_lines, random_words


class WrapTest(unittest.TestCase):
    def test_words_fill_the_lines_one_by_one(self):
        words = ("the", "cat", "sat", "down")
        self.assertEqual(wrap(words, 7), [("the", "cat"), ("sat",), ("down",)])
        self.assertEqual(wrap(words, 8), [("the", "cat"), ("sat", "down")])
        self.assertEqual(wrap(words, 4), [("the",), ("cat",), ("sat",), ("down",)])

    def test_a_later_word_does_not_go_back_to_an_earlier_line(self):
        self.assertEqual(wrap(("aaa", "bbbb", "c"), 5), [("aaa",), ("bbbb",), ("c",)])
        self.assertEqual(wrap(("aaa", "bbbb", "c"), 6), [("aaa",), ("bbbb", "c")])

    def test_no_words_have_no_lines(self):
        self.assertEqual(wrap((), 1), [])
        self.assertEqual(wrap((), 2000), [])

    def test_a_word_as_long_as_the_width_and_one_longer(self):
        self.assertEqual(wrap(("abcd",), 4), [("abcd",)])
        self.assertIsNone(wrap(("abcde",), 4))
        self.assertIsNone(wrap(("a", "b", "c", "abcde"), 4))
        self.assertIsNone(wrap(("abcde", "a"), 4))

    def test_a_line_that_is_filled_exactly(self):
        self.assertEqual(wrap(("ab", "cd"), 5), [("ab", "cd")])
        self.assertEqual(wrap(("ab", "cd"), 4), [("ab",), ("cd",)])
        self.assertEqual(wrap(("ab", "cd", "ef"), 8), [("ab", "cd", "ef")])
        self.assertEqual(wrap(("ab", "cd", "ef"), 7), [("ab", "cd"), ("ef",)])

    def test_least_width(self):
        self.assertEqual(wrap(("a", "b"), 1), [("a",), ("b",)])
        self.assertEqual(wrap(("a", "b"), 2), [("a",), ("b",)])
        self.assertEqual(wrap(("a", "b"), 3), [("a", "b")])

    def test_lines_are_tuples_in_a_new_list(self):
        words = ("ab", "cd")
        lines = wrap(words, 5)
        lines.append(("x",))
        self.assertEqual(wrap(words, 5), [("ab", "cd")])
        self.assertEqual([isinstance(line, tuple) for line in wrap(words, 2)], [True, True])


class MeasuresTest(unittest.TestCase):
    def test_line_count(self):
        self.assertEqual(line_count(("the", "cat", "sat", "down"), 7), 3)
        self.assertEqual(line_count((), 1), 0)
        self.assertEqual(line_count(("abcd",), 4), 1)
        self.assertIsNone(line_count(("abcd",), 3))

    def test_longest(self):
        self.assertEqual(longest(()), 0)
        self.assertEqual(longest(("a",)), 1)
        self.assertEqual(longest(("ab", "abcdefgh", "abc")), 8)

    def test_length_of(self):
        self.assertEqual(length_of(()), 0)
        self.assertEqual(length_of(("abc",)), 3)
        self.assertEqual(length_of(("abc", "d")), 5)
        self.assertEqual(length_of(("abcdefgh",) * 4), 35)


class NarrowestTest(unittest.TestCase):
    def test_least_width_for_each_number_of_lines(self):
        words = ("the", "cat", "sat", "down")
        self.assertEqual([narrowest(words, lines) for lines in (1, 2, 3, 4, 5)], [16, 8, 7, 4, 4])

    def test_no_words(self):
        self.assertEqual([narrowest((), lines) for lines in (0, 1, 4)], [1, 1, 1])

    def test_no_lines_allowed(self):
        self.assertIsNone(narrowest(("a",), 0))
        self.assertIsNone(narrowest(("a", "b", "c", "d"), 0))

    def test_one_word(self):
        self.assertEqual(narrowest(("a",), 1), 1)
        self.assertEqual(narrowest(("abcdefgh",), 4), 8)

    def test_against_trying_every_width(self):
        rng = random.Random(5)
        for _ in range(300):
            words = random_words(rng, 4, 8)
            for lines in range(6):
                widths = [width for width in range(1, 40)
                          if plain_lines(words, width) is not None and plain_lines(words, width) <= lines]
                self.assertEqual(narrowest(words, lines), widths[0] if widths else None, (words, lines))

    def test_lines_against_the_plain_count(self):
        rng = random.Random(6)
        for _ in range(300):
            words = random_words(rng, 4, 8)
            for width in range(1, 37):
                self.assertEqual(line_count(words, width), plain_lines(words, width), (words, width))
                lines = wrap(words, width)
                if lines is not None:
                    self.assertEqual(tuple(word for line in lines for word in line), words)


class AreWordsTest(unittest.TestCase):
    def test_numbers_and_lengths(self):
        self.assertTrue(are_words(()))
        self.assertTrue(are_words(("a", "b", "c", "d")))
        self.assertFalse(are_words(("a", "b", "c", "d", "e")))
        self.assertTrue(are_words(("abcdefgh",)))
        self.assertFalse(are_words(("abcdefghi",)))
        self.assertFalse(are_words(("a", "")))

    def test_every_character(self):
        allowed = "ABCDEFGHIJKLMNOPQRSTUVWXYZabcdefghijklmnopqrstuvwxyz0123456789.,:;!?'()/"
        for code in range(256):
            self.assertEqual(are_words(("x" + chr(code),)), chr(code) in allowed, code)


if __name__ == "__main__":
    unittest.main()
