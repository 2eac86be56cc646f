"""The words of a source: points [1] to [5]."""

import unittest

from wardens.errors import SourceError
from wardens.words import words_of

SIGNS = ":= .. <= >= != +- { } ( ) [ ] ; : , . < > = + - *".split()
RESERVED = (
    "const part var from move when do sensor lossy define require implies or and since not next all can "
    "must before once always min max true false"
).split()


def short(text):
    """The kinds and the words, without positions and without the end."""
    return [(kind, word) for kind, word, _, _ in words_of(text)[:-1]]


def signs(text):
    return [word for kind, word in short(text) if kind == "sign"]


def fault(text):
    try:
        words_of(text)
    except SourceError as error:
        return (error.line, error.column, error.what)
    return None


def unknown(line, column):
    return (line, column, "unknown character")


class TestOrdinary(unittest.TestCase):
    def test_example_of_the_interface(self):
        self.assertEqual(
            words_of("x+-1 # no\n ;"),
            [("word", "x", 1, 1), ("sign", "+-", 1, 2), ("number", "1", 1, 4), ("sign", ";", 2, 2),
             ("end", "", 2, 3)],
        )

    def test_ordinary_source(self):
        text = "part p {\n\tvar x : 0..3 from 1; # low\n\n}\nconst k=-2;\n"
        self.assertEqual(
            words_of(text),
            [("word", "part", 1, 1), ("word", "p", 1, 6), ("sign", "{", 1, 8),
             ("word", "var", 2, 2), ("word", "x", 2, 6), ("sign", ":", 2, 8), ("number", "0", 2, 10),
             ("sign", "..", 2, 11), ("number", "3", 2, 13), ("word", "from", 2, 15),
             ("number", "1", 2, 20), ("sign", ";", 2, 21), ("sign", "}", 4, 1),
             ("word", "const", 5, 1), ("word", "k", 5, 7), ("sign", "=", 5, 8), ("sign", "-", 5, 9),
             ("number", "2", 5, 10), ("sign", ";", 5, 11), ("end", "", 6, 1)],
        )

    def test_kinds_of_values(self):
        found = words_of("a 1 ;")
        self.assertIs(type(found), list)
        for row in found:
            self.assertIs(type(row), tuple)
            self.assertEqual([type(value) for value in row], [str, str, int, int])

    def test_list_is_new_each_time(self):
        first = words_of("a;")
        second = words_of("a;")
        self.assertIsNot(first, second)
        first.clear()
        self.assertEqual(words_of("a;"), second)

    def test_reserved_words_are_words(self):
        for word in RESERVED:
            self.assertEqual(words_of(word), [("word", word, 1, 1), ("end", "", 1, 1 + len(word))])

    def test_sources_of_the_greatest_length(self):
        self.assertEqual(len(words_of("a " * 2000)), 2001)
        self.assertEqual(len(words_of("(" * 4000)), 4001)


class TestSigns(unittest.TestCase):
    def test_each_sign(self):
        self.assertEqual(len(SIGNS), 22)
        for sign in SIGNS:
            self.assertEqual(words_of(sign), [("sign", sign, 1, 1), ("end", "", 1, 1 + len(sign))])

    def test_each_sign_between_words(self):
        for sign in SIGNS:
            self.assertEqual(short(f"a{sign}1"), [("word", "a"), ("sign", sign), ("number", "1")])

    def test_signs_that_begin_alike(self):
        cases = {
            ":=": [":="], ": =": [":", "="], "::=": [":", ":="], ":==": [":=", "="], "=:": ["=", ":"],
            "..": [".."], ". .": [".", "."], "...": ["..", "."], "....": ["..", ".."],
            "<=": ["<="], "< =": ["<", "="], "<<=": ["<", "<="], "<==": ["<=", "="], "=<": ["=", "<"],
            ">=": [">="], "> =": [">", "="], ">>=": [">", ">="], "=>": ["=", ">"], "<>": ["<", ">"],
            "+-": ["+-"], "+ -": ["+", "-"], "++-": ["+", "+-"], "+--": ["+-", "-"], "-+": ["-", "+"],
            "--": ["-", "-"], "!=": ["!="], "!==": ["!=", "="], "**": ["*", "*"], "==": ["=", "="],
        }
        for text, expected in cases.items():
            self.assertEqual(signs(text), expected, text)

    def test_all_pairs_of_signs(self):
        for one in SIGNS:
            for other in SIGNS:
                expected = [sign for sign in SIGNS if (one + other).startswith(sign)][0]
                self.assertEqual(signs(one + other)[0], expected, one + other)
                self.assertEqual(signs(f"{one} {other}"), [one, other])

    def test_range_of_numbers(self):
        self.assertEqual(short("0..3"), [("number", "0"), ("sign", ".."), ("number", "3")])
        self.assertEqual(short("a.b"), [("word", "a"), ("sign", "."), ("word", "b")])

    def test_exclamation_mark_alone(self):
        self.assertEqual(fault("!"), unknown(1, 1))
        self.assertEqual(fault("a ! = b"), unknown(1, 3))
        self.assertEqual(fault("a !b"), unknown(1, 3))
        self.assertEqual(fault("a !!= b"), unknown(1, 3))
        self.assertIsNone(fault("a != b"))


class TestWordsAndNumbers(unittest.TestCase):
    def test_characters_of_words(self):
        word = "abcdefghijklmnopqrst"
        for text in (word, "uvwxyzABCDEFGHIJKLM", "NOPQRSTUVWXYZ_", "_0123456789", "a1b2", "_", "__", "x_"):
            self.assertEqual(short(text), [("word", text)])

    def test_words_of_20_and_of_21_characters(self):
        for first in "aZ_":
            self.assertEqual(short(first + "b" * 19), [("word", first + "b" * 19)])
            self.assertEqual(fault(first + "b" * 20), unknown(1, 1))
        self.assertEqual(short("a" + "1" * 19), [("word", "a" + "1" * 19)])
        self.assertEqual(fault("a" + "1" * 20), unknown(1, 1))
        self.assertEqual(fault(";\n  " + "a" * 21 + "\n!"), unknown(2, 3))
        self.assertEqual(fault("a" * 4000), unknown(1, 1))

    def test_numbers_of_7_and_of_8_digits(self):
        self.assertEqual(short("9999999"), [("number", "9999999")])
        self.assertEqual(fault("10000000"), unknown(1, 1))
        self.assertEqual(fault("x 12345678;"), unknown(1, 3))
        self.assertEqual(short("1234567 8"), [("number", "1234567"), ("number", "8")])

    def test_zeros_in_front(self):
        self.assertEqual(short("0000001"), [("number", "0000001")])
        self.assertEqual(short("00 007"), [("number", "00"), ("number", "007")])
        self.assertEqual(fault("00000001"), unknown(1, 1))

    def test_letters_directly_behind_digits(self):
        self.assertEqual(words_of("12ab")[:2], [("number", "12", 1, 1), ("word", "ab", 1, 3)])
        self.assertEqual(short("1_2"), [("number", "1"), ("word", "_2")])
        self.assertEqual(short("9999999" + "a" * 20), [("number", "9999999"), ("word", "a" * 20)])
        self.assertEqual(fault("1" + "a" * 21), unknown(1, 2))

    def test_words_end_at_signs_and_blanks(self):
        self.assertEqual(short("a-b"), [("word", "a"), ("sign", "-"), ("word", "b")])
        self.assertEqual(short("a\tb\nc"), [("word", "a"), ("word", "b"), ("word", "c")])
        self.assertEqual(short("a#b\nc"), [("word", "a"), ("word", "c")])


class TestBlanksAndPositions(unittest.TestCase):
    def test_empty_source(self):
        self.assertEqual(words_of(""), [("end", "", 1, 1)])

    def test_blanks(self):
        self.assertEqual(words_of("   "), [("end", "", 1, 4)])
        self.assertEqual(words_of("\t\t"), [("end", "", 1, 3)])
        self.assertEqual(words_of("\n"), [("end", "", 2, 1)])
        self.assertEqual(words_of("\n\n  \n"), [("end", "", 4, 1)])
        self.assertEqual(words_of(" \t\n\t a"), [("word", "a", 2, 3), ("end", "", 2, 4)])

    def test_end_behind_a_newline(self):
        self.assertEqual(words_of("a\n"), [("word", "a", 1, 1), ("end", "", 2, 1)])
        self.assertEqual(words_of("a\n "), [("word", "a", 1, 1), ("end", "", 2, 2)])

    def test_comments(self):
        self.assertEqual(words_of("# a"), [("end", "", 1, 4)])
        self.assertEqual(words_of("#"), [("end", "", 1, 2)])
        self.assertEqual(words_of("# a\n"), [("end", "", 2, 1)])
        self.assertEqual(words_of("#\n#"), [("end", "", 2, 2)])
        self.assertEqual(words_of("a # b # c\nd"), [("word", "a", 1, 1), ("word", "d", 2, 1), ("end", "", 2, 2)])
        self.assertEqual(words_of("a; # end"), [("word", "a", 1, 1), ("sign", ";", 1, 2), ("end", "", 1, 9)])

    def test_anything_may_stand_in_a_comment(self):
        self.assertEqual(words_of("# !@$ " + "a" * 30 + " 123456789"), [("end", "", 1, 47)])
        self.assertEqual(fault("# !\n!"), unknown(2, 1))

    def test_columns_of_each_word(self):
        found = [(line, column) for _, _, line, column in words_of("ab:=12 c\n\td..\n\n e#x\nf")]
        self.assertEqual(
            found, [(1, 1), (1, 3), (1, 5), (1, 8), (2, 2), (2, 3), (4, 2), (5, 1), (5, 2)]
        )


class TestUnknown(unittest.TestCase):
    def test_characters_that_begin_nothing(self):
        for character in "!\"$&'/?@\\^`|~":
            self.assertEqual(fault(character), unknown(1, 1), character)
            self.assertEqual(fault(f"ab\n  c{character}d"), unknown(2, 4), character)

    def test_every_other_character_is_found(self):
        for number in range(32, 127):
            if chr(number) not in "!\"$&'/?@\\^`|~%":
                self.assertIsNone(fault(chr(number)), chr(number))

    def test_first_place_counts(self):
        self.assertEqual(fault("a $ ! " + "b" * 21), unknown(1, 3))
        self.assertEqual(fault("12345678 $"), unknown(1, 1))
        self.assertEqual(fault("\n\n\t?"), unknown(3, 2))


if __name__ == "__main__":
    unittest.main()
