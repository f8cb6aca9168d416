"""Points 109 and 110, and what point 117 says of texts: the tokens of a text and their problems."""

import unittest

from allsomeno.errors import BadValue, TextError
from allsomeno.scanning import scan

from tests.reference import Stream
from tests.speech import NOT_HERE, TOO_LONG, scanned

# White space other than spaces, and other characters of which no token is made.
OTHERS = "\t\r\x0b\x0c\x1c\x85\xa0\u2028\u2003AZ09_-,.:'\"`{\x00\x7f\xe4\xdf\xb5\u0131\u03b1\u0430\uff41\U0001d41a"


class Tokens(unittest.TestCase):
    def check(self, text, found):
        self.assertEqual(scan(text), found)
        self.assertEqual(scanned(text), found)
        self.assertIsInstance(scan(text), list)

    def test_ordinary(self):
        self.check("all clerk", [("word", "all", 1), ("word", "clerk", 5), ("end", "", 10)])
        self.check("a;b", [("word", "a", 1), ("sign", ";", 2), ("word", "b", 3), ("end", "", 4)])
        self.check(";;", [("sign", ";", 1), ("sign", ";", 2), ("end", "", 3)])
        self.check("by self than xyz", [
            ("word", "by", 1), ("word", "self", 4), ("word", "than", 9), ("word", "xyz", 14), ("end", "", 17)])

    def test_no_characters(self):
        self.check("", [("end", "", 1)])

    def test_blanks(self):
        self.check(" ", [("end", "", 2)])
        self.check("   ", [("end", "", 4)])
        self.check("  a   ;  b  ", [("word", "a", 3), ("sign", ";", 7), ("word", "b", 10), ("end", "", 13)])
        self.check(" " * 600, [("end", "", 601)])

    def test_words_as_long_as_possible(self):
        self.check("abcdefgh", [("word", "abcdefgh", 1), ("end", "", 9)])
        self.check("allsome no", [("word", "allsome", 1), ("word", "no", 9), ("end", "", 11)])
        self.check("a abcdefgh;abcdefgh", [
            ("word", "a", 1), ("word", "abcdefgh", 3), ("sign", ";", 11), ("word", "abcdefgh", 12), ("end", "", 20)])

    def test_six_hundred_characters(self):
        text = "abcd " * 120
        self.assertEqual(len(text), 600)
        self.assertEqual(len(scan(text)), 121)
        self.assertEqual(scan(text)[-1], ("end", "", 601))
        self.check(";" * 600, [("sign", ";", at) for at in range(1, 601)] + [("end", "", 601)])

    def test_a_list_of_ones_own(self):
        scan("a b").clear()
        self.assertEqual(len(scan("a b")), 3)

    def test_many_texts(self):
        stream, problems, right = Stream(110), 0, 0
        for _ in range(1500):
            signs = "abcdefghijkl; " if stream.below(2) else "abxyz;;    AZ1\t\r\x0b.\xe4"
            text = "".join(signs[stream.below(len(signs))] for _ in range(stream.below(30)))
            found = scanned(text)
            if isinstance(found, list):
                right += 1
                self.assertEqual(scan(text), found)
            else:
                problems += 1
                with self.assertRaises(TextError) as caught:
                    scan(text)
                self.assertEqual((caught.exception.column, caught.exception.words), found)
        self.assertGreater(min(problems, right), 300)


class Problems(unittest.TestCase):
    def check(self, text, column, words):
        with self.assertRaises(TextError) as caught:
            scan(text)
        self.assertEqual((caught.exception.column, caught.exception.words), (column, words), text)
        self.assertEqual(scanned(text), (column, words))

    def test_characters_that_begin_no_token(self):
        for sign in OTHERS:
            self.check(sign, 1, NOT_HERE)
            self.check("  " + sign, 3, NOT_HERE)
            self.check("all" + sign, 4, NOT_HERE)
            self.check("all " + sign + "clerk", 5, NOT_HERE)
            self.check(";" + sign, 2, NOT_HERE)
            self.check("abcdefgh" + sign, 9, NOT_HERE)

    def test_words_of_nine_letters(self):
        self.check("abcdefghi", 1, TOO_LONG)
        self.check("  abcdefghi", 3, TOO_LONG)
        self.check("all;abcdefghi;", 5, TOO_LONG)
        self.check("all " + "z" * 596, 5, TOO_LONG)
        self.check("z" * 600, 1, TOO_LONG)

    def test_the_first_token_with_a_problem(self):
        self.check("abcdefghi A", 1, TOO_LONG)
        self.check("A abcdefghi", 1, NOT_HERE)
        self.check("abc A abcdefghi", 5, NOT_HERE)
        self.check("abc abcdefghi1", 5, TOO_LONG)
        self.check("1 2", 1, NOT_HERE)
        self.check("a 1 2", 3, NOT_HERE)
        self.check("abcdefghi jklmnopqrs", 1, TOO_LONG)
        # A capital letter parts a word, so what is ahead of it is short enough.
        self.check("abcdeFghijklmn", 6, NOT_HERE)
        self.check(" " * 599 + "A", 600, NOT_HERE)


class Refusals(unittest.TestCase):
    def check(self, value, name="text"):
        with self.assertRaises(BadValue) as caught:
            scan(value)
        self.assertEqual(caught.exception.name, name)

    def test_other_kinds(self):
        for value in (None, True, 0, 7, (), [], ("all",), ["all"], b"all", ("a", "b"), {}):
            self.check(value)

    def test_six_hundred_and_one_characters(self):
        self.check("a " * 300 + " ")
        self.check(" " * 601)
        self.check("A" * 601)

    def test_newlines(self):
        for text in ("\n", "all\n", "\nall", "all\nclerk", "all\r\nclerk", "A\n", "abcdefghi\n", " " * 599 + "\n"):
            self.check(text)

    def test_only_the_line_feed_is_a_newline(self):
        for sign in "\r\x0b\x0c\x1c\x1d\x1e\x85\u2028\u2029":
            with self.assertRaises(TextError) as caught:
                scan("all" + sign)
            self.assertEqual((caught.exception.column, caught.exception.words), (4, NOT_HERE))


if __name__ == "__main__":
    unittest.main()
