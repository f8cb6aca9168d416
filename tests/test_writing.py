"""Points 112 and 115 to 117: how sentences and premises are written, and that they are read as what they were."""

import unittest

from allsomeno.reading import read_premises, read_sentence
from allsomeno.writing import premises_text, sentence_text

from tests.checking import SIGNATURES, check_refusals, sentences_of, wrong_premises, wrong_sentences
from tests.reference import Stream, mixed_premises
from tests.speech import NAMES, text_by
from tests.test_reading import CLERKS, FORMS, NO_VERBS, WRONG_NAMES

LONG = (("aaaaaaaa", "bbbbbbbb"), ("cccccccc", "dddddddd"))


class Written(unittest.TestCase):
    def test_each_form(self):
        for text, sentence in FORMS:
            self.assertEqual(sentence_text(CLERKS, sentence), text)
            self.assertEqual(premises_text(CLERKS, (sentence,)), text)

    def test_of_the_interface(self):
        self.assertEqual(sentence_text(CLERKS, ("as many", 1, 0)), "as many scribe as clerk")
        self.assertEqual(
            premises_text(CLERKS, (("fewer", 0, 1), ("self", "some", 0, True, 0))),
            "fewer clerk than scribe; some clerk see self")

    def test_no_premises(self):
        for names in NAMES.values():
            self.assertEqual(premises_text(names, ()), "")

    def test_each_sentence_of_each_signature(self):
        for signature in SIGNATURES:
            names = NAMES[signature]
            for sentence in sentences_of(signature):
                text = sentence_text(names, sentence)
                self.assertEqual(text, text_by(names, sentence))
                self.assertEqual(read_sentence(names, text), sentence)
                self.assertEqual(premises_text(names, (sentence,)), text)

    def test_the_same_noun_twice(self):
        self.assertEqual(sentence_text(CLERKS, ("some not", 1, 1)), "some scribe are not scribe")
        self.assertEqual(sentence_text(CLERKS, ("fewer", 0, 0)), "fewer clerk than clerk")
        self.assertEqual(
            sentence_text(CLERKS, ("verb", "all", 1, True, 0, True, "all", 1)), "all scribe see by all scribe")

    def test_many_premises(self):
        stream = Stream(115)
        for signature in SIGNATURES:
            names, sentences = NAMES[signature], sentences_of(signature)
            for _ in range(40):
                premises = mixed_premises(sentences, stream)
                text = premises_text(names, premises)
                self.assertEqual(text, "; ".join(text_by(names, one) for one in premises))
                self.assertEqual(read_premises(names, text), premises)

    def test_the_longest_text(self):
        longest = ("verb", "some", 0, False, 1, True, "some", 1)
        text = premises_text(LONG, (longest,) * 8)
        self.assertEqual(text, "; ".join(["some aaaaaaaa not dddddddd by some bbbbbbbb"] * 8))
        self.assertLess(len(text), 600)
        self.assertEqual(read_premises(LONG, text), (longest,) * 8)

    def test_with_more_blanks(self):
        stream = Stream(1151)
        for signature in SIGNATURES:
            names, sentences = NAMES[signature], sentences_of(signature)
            for _ in range(20):
                premises = mixed_premises(sentences, stream, 3)
                text = premises_text(names, premises)
                wide = "".join(one + " " * stream.below(4) if one == " " else one for one in text)
                wide = " " * stream.below(3) + wide.replace(";", " " * stream.below(3) + ";") + " " * stream.below(3)
                for other in (wide, text.replace("; ", ";"), text.replace("; ", " ;"), text.replace(" ", "  ")):
                    self.assertEqual(read_premises(names, other), premises)


class Refusals(unittest.TestCase):
    names = ("names", CLERKS, WRONG_NAMES)

    def test_sentences(self):
        check_refusals(self, sentence_text, self.names, ("sentence", ("all", 0, 1), wrong_sentences((2, 1))))
        wrong = [("all", 0, 2), ("self", "all", 0, True, 0), ("verb", "all", 0, True, 0, False, "all", 0)]
        check_refusals(self, sentence_text, ("names", NO_VERBS, WRONG_NAMES), ("sentence", ("no", 1, 1), wrong))

    def test_premises(self):
        check_refusals(
            self, premises_text, self.names, ("premises", (("all", 0, 1),) * 8, wrong_premises((2, 1))))
        wrong = [(("all", 0, 1), ("self", "all", 0, True, 0)), (("no", 2, 0),), (("no", 0, 0),) * 9]
        check_refusals(self, premises_text, ("names", NO_VERBS, WRONG_NAMES), ("premises", (), wrong))


if __name__ == "__main__":
    unittest.main()
