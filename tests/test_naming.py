"""Point 108: names, and the words that are reserved."""

import unittest

from allsomeno.naming import are_names

from tests.checking import VALUES

LETTERS = "abcdefghijklmnopqrstuvwxyz"
RESERVED = ("all", "some", "no", "not", "are", "as", "many", "fewer", "than", "by", "self")


class Names(unittest.TestCase):
    def check(self, value, right):
        self.assertIs(are_names(value), right, value)

    def check_name(self, name, right):
        """The name alone, and at each place beside others."""
        self.check(((name,), ()), right)
        self.check(((name, "bb", "cc", "dd"), ("ee", "ff")), right)
        self.check((("aa", "bb", "cc", name), ("ee", "ff")), right)
        self.check((("aa", "bb", "cc", "dd"), (name, "ff")), right)
        self.check((("aa", "bb", "cc", "dd"), ("ee", name)), right)

    def test_how_many(self):
        for nouns in range(7):
            for verbs in range(5):
                value = (tuple("abcdef"[:nouns]), tuple("uvwxyz"[:verbs]))
                self.check(value, 1 <= nouns <= 4 and verbs <= 2)

    def test_numbers_of_letters(self):
        for many in range(12):
            self.check_name("z" * many, 1 <= many <= 8)
        self.check_name("clerks", True)
        self.check_name("q" * 600, False)

    def test_each_letter(self):
        for letter in LETTERS:
            self.check(((letter,), ()), True)
            self.check((("x" + letter * 7, letter + "x"), ("z" + letter,)), True)

    def test_other_characters(self):
        for sign in "AZ09_-;.'\" \t\n\r`{\x00\x7f\xe4\xdf\xb5\u0131\u03b1\u0430\uff41\U0001d41a":
            for name in (sign, sign + "a", "a" + sign, "a" + sign + "a", "seven" + sign):
                self.check_name(name, False)

    def test_reserved_words(self):
        for word in RESERVED:
            self.check_name(word, False)
            self.check_name(word + "s", True)
            self.check_name("x" + word, True)
            self.check_name(word.upper(), False)

    def test_words_that_are_not_reserved(self):
        for word in ("is", "and", "or", "none", "every", "verb", "noun", "a", "an", "the", "end", "selves"):
            self.check_name(word, True)

    def test_all_different(self):
        self.check((("clerk", "clerk"), ()), False)
        self.check((("a", "b", "c", "a"), ()), False)
        self.check((("a", "b"), ("see", "see")), False)
        self.check((("clerk", "see"), ("see",)), False)
        self.check((("clerk", "see"), ("know", "clerk")), False)
        self.check((("clerk", "seen"), ("see", "clerks")), True)

    def test_no_verbs(self):
        self.check((("clerk",), ()), True)
        self.check((("clerk",),), False)
        self.check((("clerk",), None), False)

    def test_other_forms(self):
        for value in (
            [("a",), ()], (["a"], ()), (("a",), []), (("a",), ["see"]), (("a",), (), ()), ((("a",), ()),), ("a", ()),
            ("a", "b"), (("a",), "see"), ("ab", ("see",)), (((("a",),), ())), (((["a"],), ())), ((None,), ()),
            ((0,), ()), ((True,), ()), ((b"a",), ()), (("a",), (None,)), (("a",), (0,)), (("a",), (("see",),)),
            (("a", None), ()), ({"a": 1}, ()), (("a",), {}), {"a": ()}, "ab", (("a",), ("see", ["b"])),
        ):
            self.check(value, False)

    def test_values_of_every_kind(self):
        rows = (("open",), ("clash",))
        for value in VALUES:
            self.check(value, False)
            self.check((value, ()), value in rows)
            self.check((("a",), value), value in rows + ((),))
            self.check(((value,), ()), value == "open")
            self.check((("a",), (value,)), value == "open")


if __name__ == "__main__":
    unittest.main()
