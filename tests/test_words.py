"""Point [20]: kept words, names, words of texts."""

import unittest

from anymaker.errors import BadText
from anymaker.words import KEPT, is_name, words_of
from tests.nearly import STRANGE


class WordsTest(unittest.TestCase):
    def test_kept(self):
        told = ("ahead, anew, ask, body, call, do, document, down, each, else, ever, fill, group, if, left, less, "
                "minus, none, order, over, part, place, plus, program, reads, right, run, same, set, show, then, "
                "times, up, walk, while, whole, width")
        self.assertEqual(KEPT, tuple(told.split(", ")))

    def test_names(self):
        for thing in ("x", "abcdefgh", "zz", "bodya", "number", "name", "shown", "asked", "ends"):
            self.assertIs(is_name(thing), True, thing)

    def test_no_names(self):
        for thing in STRANGE[:-1]:
            if thing not in ("x",):
                self.assertIs(is_name(thing), False, thing)
        for thing in ("abcdefghi", "X", "a b", "a1", "x\n", "\u00e4", " x", ["x"], ("x",), b"x"):
            self.assertIs(is_name(thing), False, thing)
        for word in KEPT:
            self.assertIs(is_name(word), False)

    def test_no_kept_word_is_a_name_and_longer_ones_are(self):
        self.assertFalse(is_name("body"))
        self.assertTrue(is_name("bodies"))

    def test_words(self):
        text = "program x\n\n  body  show 1\n~!"
        self.assertEqual(words_of(text), [
            ("program", 1, 1), ("x", 1, 9), ("body", 3, 3), ("show", 3, 9), ("1", 3, 14), ("~!", 4, 1)])
        self.assertEqual(words_of(text="ab"), [("ab", 1, 1)])

    def test_texts_without_words(self):
        for text in ("", " ", "\n", "  \n \n"):
            self.assertEqual(words_of(text), [])

    def test_words_are_a_new_list(self):
        one = words_of("a b")
        one.append(1)
        self.assertEqual(words_of("a b"), [("a", 1, 1), ("b", 1, 3)])
        self.assertIsInstance(words_of("a b"), list)

    def test_no_texts(self):
        for thing in (None, 1, True, b"a", ["a"], ("a",), "a\tb", "a\r", "\x7f", "\u00e4", "a\x00", "\x1f", {}):
            with self.assertRaises(BadText) as caught:
                words_of(thing)
            error = caught.exception
            self.assertEqual((error.line, error.column, error.wanted), (None, None, None))


if __name__ == "__main__":
    unittest.main()
