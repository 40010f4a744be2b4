import unittest

from ontoworks.tokens import is_name, place, split_tokens
from tests.faults import fault, kinds

RESERVED = (
    "concept role individual axiom below equals apart domain range under inverse is and or not some all anything "
    "nothing never"
).split()
LETTERS = "abcdefghijklmnopqrstuvwxyz"


class PlaceTest(unittest.TestCase):
    def test_the_example_of_the_document(self):
        self.assertEqual(place("a\nbc", 3), (2, 2))

    def test_index_zero(self):
        self.assertEqual(place("abc", 0), (1, 1))
        self.assertEqual(place("\nabc", 0), (1, 1))

    def test_a_line_feed_belongs_to_the_line_that_it_ends(self):
        self.assertEqual(place("ab\ncd\n", 2), (1, 3))
        self.assertEqual(place("ab\ncd\n", 5), (2, 3))

    def test_behind_a_line_feed_a_line_begins(self):
        self.assertEqual(place("ab\ncd\n", 3), (2, 1))
        self.assertEqual(place("ab\n\ncd", 3), (2, 1))
        self.assertEqual(place("ab\n\ncd", 4), (3, 1))

    def test_the_length_of_the_text(self):
        self.assertEqual(place("abc", 3), (1, 4))
        self.assertEqual(place("ab\n", 3), (2, 1))
        self.assertEqual(place("ab\ncd", 5), (2, 3))

    def test_the_empty_text(self):
        self.assertEqual(place("", 0), (1, 1))

    def test_every_index_of_a_text(self):
        text = "a\n\nbcd\n e"
        line, column = 1, 1
        for at in range(len(text) + 1):
            self.assertEqual(place(text, at), (line, column))
            line, column = (line + 1, 1) if text[at:at + 1] == "\n" else (line, column + 1)

    def test_a_text_of_4000_characters(self):
        self.assertEqual(place("a" * 3999 + "\n", 4000), (2, 1))
        self.assertEqual(place("\n" * 4000, 4000), (4001, 1))

    def test_the_kinds_of_values(self):
        self.assertEqual(kinds(place("a\nbc", 3)), {tuple, int})


class IsNameTest(unittest.TestCase):
    def test_lengths(self):
        self.assertIs(is_name("a"), True)
        self.assertIs(is_name("a" * 20), True)
        self.assertIs(is_name("a" * 21), False)
        self.assertIs(is_name(""), False)

    def test_letters_underscores_and_digits(self):
        for word in ("A", "z", "Z", "_", "__", "_1", "a1", "aB_9z", "x0123456789"):
            self.assertIs(is_name(word), True, word)
        for letter in LETTERS + LETTERS.upper() + "_":
            self.assertIs(is_name(letter), True, letter)

    def test_a_digit_in_front(self):
        for digit in "0123456789":
            self.assertIs(is_name(digit), False)
            self.assertIs(is_name(digit + "a"), False)
            self.assertIs(is_name("a" + digit), True)

    def test_other_characters(self):
        for at in range(32, 127):
            sign = chr(at)
            if not (sign.isalnum() or sign == "_"):
                for word in (sign, sign + "a", "a" + sign, "a" + sign + "b"):
                    self.assertIs(is_name(word), False, word)
        for word in ("a\n", "\na", "a b", " a", "a "):
            self.assertIs(is_name(word), False, word)

    def test_reserved_words(self):
        self.assertEqual(len(RESERVED), 20)
        for word in RESERVED:
            self.assertIs(is_name(word), False, word)

    def test_reserved_words_in_another_case_or_as_a_part(self):
        for word in RESERVED:
            for name in (word.upper(), word.capitalize(), word[:-1] + word[-1].upper(), word + "s", "_" + word):
                self.assertIs(is_name(name), True, name)


class SplitTokensTest(unittest.TestCase):
    def test_the_example_of_the_document(self):
        self.assertEqual(split_tokens("a;"), (("word", "a", 0), ("sign", ";", 1), ("end", "", 2)))

    def test_the_end_token_stands_at_the_length_of_the_text(self):
        self.assertEqual(split_tokens(""), (("end", "", 0),))
        self.assertEqual(split_tokens(" \n "), (("end", "", 3),))
        self.assertEqual(split_tokens("a"), (("word", "a", 0), ("end", "", 1)))
        self.assertEqual(split_tokens("a \n"), (("word", "a", 0), ("end", "", 3)))

    def test_words_directly_beside_signs(self):
        self.assertEqual(split_tokens("a(b)c;d,e:f"), (
            ("word", "a", 0), ("sign", "(", 1), ("word", "b", 2), ("sign", ")", 3), ("word", "c", 4),
            ("sign", ";", 5), ("word", "d", 6), ("sign", ",", 7), ("word", "e", 8), ("sign", ":", 9),
            ("word", "f", 10), ("end", "", 11)))

    def test_signs_directly_beside_signs(self):
        self.assertEqual(split_tokens("();,:"), (
            ("sign", "(", 0), ("sign", ")", 1), ("sign", ";", 2), ("sign", ",", 3), ("sign", ":", 4),
            ("end", "", 5)))

    def test_blanks(self):
        self.assertEqual(split_tokens("  a\n\n b"), (("word", "a", 2), ("word", "b", 6), ("end", "", 7)))

    def test_words(self):
        for word in ("a", "Z", "_", "a1", "_9", "concept", "Concept", "a" * 20, "never", "aZ_09"):
            self.assertEqual(split_tokens(word), (("word", word, 0), ("end", "", len(word))))

    def test_a_comment_up_to_a_line_feed(self):
        self.assertEqual(split_tokens("a#b;c\nd"), (("word", "a", 0), ("word", "d", 6), ("end", "", 7)))
        self.assertEqual(split_tokens("#\n#\na"), (("word", "a", 4), ("end", "", 5)))

    def test_a_comment_up_to_the_end_of_the_text(self):
        self.assertEqual(split_tokens("a #b"), (("word", "a", 0), ("end", "", 4)))
        self.assertEqual(split_tokens("#"), (("end", "", 1),))
        self.assertEqual(split_tokens("# a\n"), (("end", "", 4),))

    def test_a_comment_may_have_every_character(self):
        text = "#" + "".join(chr(at) for at in range(32, 127) if chr(at) != "%") + "1 a" + "b" * 30
        self.assertEqual(split_tokens(text), (("end", "", len(text)),))

    def test_a_word_of_21_characters(self):
        self.assertEqual(fault(split_tokens, "a" * 21), (1, 1, "unknown character"))
        self.assertEqual(fault(split_tokens, "b\n (" + "_1" * 11 + ")"), (2, 3, "unknown character"))

    def test_two_words_of_20_characters_beside_each_other(self):
        text = "a" * 20 + " " + "b" * 20
        self.assertEqual(split_tokens(text), (("word", "a" * 20, 0), ("word", "b" * 20, 21), ("end", "", 41)))

    def test_a_character_that_begins_no_token(self):
        for at in range(32, 127):
            sign = chr(at)
            if not (sign.isalpha() or sign in " _#();,:"):
                self.assertEqual(fault(split_tokens, sign), (1, 1, "unknown character"), sign)
                self.assertEqual(fault(split_tokens, "a ;\n b " + sign), (2, 4, "unknown character"), sign)

    def test_a_digit_in_front(self):
        self.assertEqual(fault(split_tokens, "a 1b"), (1, 3, "unknown character"))
        self.assertEqual(fault(split_tokens, "(1)"), (1, 2, "unknown character"))

    def test_the_first_of_several(self):
        self.assertEqual(fault(split_tokens, "a ? " + "b" * 21), (1, 3, "unknown character"))
        self.assertEqual(fault(split_tokens, "a " + "b" * 21 + " ?"), (1, 3, "unknown character"))
        self.assertEqual(fault(split_tokens, "a " + "b" * 21 + "?"), (1, 3, "unknown character"))
        self.assertEqual(fault(split_tokens, "?" + "b" * 21), (1, 1, "unknown character"))
        self.assertEqual(fault(split_tokens, "a?b"), (1, 2, "unknown character"))

    def test_a_text_of_4000_characters(self):
        tokens = split_tokens("ab, " * 1000)
        self.assertEqual(len(tokens), 2001)
        self.assertEqual(tokens[-3:], (("word", "ab", 3996), ("sign", ",", 3998), ("end", "", 4000)))

    def test_the_kinds_of_values(self):
        self.assertEqual(kinds(split_tokens("a (b) # c")), {tuple, str, int})


if __name__ == "__main__":
    unittest.main()
