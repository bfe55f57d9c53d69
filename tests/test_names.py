"""[3] names, [30] the words of the language."""

import string
import unittest

from ellwarden.names import WORDS, is_name

TOLD = (
    "days base unit device feature role job procedure takes uses read by let be tell in judge good bad choose"
    " passed failed open repeat leave call stop end size offset news cert stand jolt edition strike told within"
    " sum product quotient card spot row ground nobody"
)


class Words(unittest.TestCase):
    def test_the_words_in_order(self):
        self.assertIsInstance(WORDS, tuple)
        self.assertEqual(WORDS, tuple(TOLD.split()))

    def test_no_word_is_a_name(self):
        for word in WORDS:
            self.assertIs(is_name(word), False, word)

    def test_words_with_a_letter_more_or_less_are_names(self):
        for word in WORDS:
            for near in (word + "x", "x" + word):
                self.assertIs(is_name(near), True, near)
            self.assertIs(is_name(word[1:]), word[1:] != "" and word[1:] not in WORDS, word)


class Names(unittest.TestCase):
    def test_lengths(self):
        self.assertIs(is_name(""), False)
        self.assertIs(is_name("a"), True)
        self.assertIs(is_name("abcdefghijkl"), True)
        self.assertIs(is_name("abcdefghijklm"), False)
        self.assertIs(is_name("x" * 400), False)

    def test_every_letter(self):
        for letter in string.ascii_lowercase:
            self.assertIs(is_name(letter), True)
            self.assertIs(is_name("bore" + letter), True)

    def test_other_signs(self):
        for number in range(300):
            sign = chr(number)
            if sign not in string.ascii_lowercase:
                for text in (sign, "a" + sign, sign + "a", "a" + sign + "a"):
                    self.assertIs(is_name(text), False, repr(text))
        for text in ("\u0430", "\u00e9t\u00e9", "\uff41", "mm\n", "Bore", "bore1", "a b", "a_b", "_"):
            self.assertIs(is_name(text), False, repr(text))

    def test_what_is_no_string(self):
        for thing in (None, True, 1, ("a",), ["a"], b"a", {"a": 1}, ()):
            self.assertIs(is_name(thing), False, repr(thing))


if __name__ == "__main__":
    unittest.main()
