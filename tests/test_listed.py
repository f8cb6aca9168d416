"""Points 14 to 18: the order of all sentences, their number, and renaming."""

import unittest
from itertools import permutations

from allsomeno.listed import count_sentences, index_of_sentence, nth_sentence, renamed
from allsomeno.sentences import say_the_same

from tests.checking import SIGNATURES, WRONG_INTEGERS, WRONG_SIGNATURES, check_refusals, sentences_of
from tests.reference import Stream, mixed_model, truth

WRONG_SENTENCES = (None, ("all", 0, 2), ["all", 0, 1], ("all", 0, False), ("verb", "all", 0, True, 0, False, "some"))


def renamed_model(model, order):
    """The model in which the nouns have changed their names likewise."""
    groups, verbs, selves = model
    return (tuple((size, tuple(sorted(order[x] for x in nouns))) for size, nouns in groups), verbs, selves)


class Counting(unittest.TestCase):
    def test_number(self):
        for nouns, verbs in SIGNATURES:
            many = 6 * nouns * nouns + 16 * nouns * nouns * verbs + 4 * nouns * verbs
            self.assertEqual(count_sentences((nouns, verbs)), many)
            self.assertEqual(len(sentences_of((nouns, verbs))), many)

    def test_least_and_greatest(self):
        self.assertEqual(count_sentences((1, 0)), 6)
        self.assertEqual(count_sentences((4, 2)), 640)


class Order(unittest.TestCase):
    def test_every_sentence_at_its_index(self):
        for signature in SIGNATURES:
            for index, sentence in enumerate(sentences_of(signature)):
                self.assertEqual(nth_sentence(signature, index), sentence)
                self.assertEqual(index_of_sentence(signature, sentence), index)

    def test_items_are_of_the_right_kinds(self):
        for index, sentence in enumerate(sentences_of((2, 2))):
            self.assertEqual(repr(nth_sentence((2, 2), index)), repr(sentence))

    def test_first_and_last(self):
        self.assertEqual(nth_sentence((1, 0), 0), ("all", 0, 0))
        self.assertEqual(nth_sentence((1, 0), 5), ("fewer", 0, 0))
        self.assertEqual(nth_sentence((4, 2), 0), ("all", 0, 0))
        self.assertEqual(nth_sentence((4, 2), 639), ("self", "some", 3, False, 1))

    def test_all_comes_ahead_of_some_and_true_ahead_of_false(self):
        self.assertEqual(nth_sentence((1, 1), 6), ("verb", "all", 0, True, 0, True, "all", 0))
        self.assertEqual(nth_sentence((1, 1), 7), ("verb", "all", 0, True, 0, True, "some", 0))
        self.assertEqual(nth_sentence((1, 1), 8), ("verb", "all", 0, True, 0, False, "all", 0))
        self.assertEqual(nth_sentence((1, 1), 10), ("verb", "all", 0, False, 0, True, "all", 0))
        self.assertEqual(nth_sentence((1, 1), 14), ("verb", "some", 0, True, 0, True, "all", 0))


class Renaming(unittest.TestCase):
    def test_of_each_word(self):
        order = (2, 0, 1)
        self.assertEqual(renamed((3, 2), ("all", 0, 1), order), ("all", 2, 0))
        self.assertEqual(renamed((3, 2), ("fewer", 2, 2), order), ("fewer", 1, 1))
        verb = ("verb", "some", 1, False, 1, True, "all", 2)
        self.assertEqual(renamed((3, 2), verb, order), ("verb", "some", 0, False, 1, True, "all", 1))
        self.assertEqual(renamed((3, 2), ("self", "all", 0, True, 1), order), ("self", "all", 2, True, 1))

    def test_by_the_order_that_changes_nothing(self):
        for sentence in sentences_of((3, 1)):
            self.assertEqual(renamed((3, 1), sentence, (0, 1, 2)), sentence)

    def test_renamed_sentences_hold_in_renamed_models(self):
        signature, stream = (3, 1), Stream(5)
        for _ in range(12):
            model = mixed_model(signature, stream)
            for order in permutations(range(3)):
                other = renamed_model(model, order)
                for sentence in sentences_of(signature):
                    self.assertEqual(truth(model, sentence), truth(other, renamed(signature, sentence, order)))

    def test_what_says_the_same_does_so_renamed(self):
        signature, order = (2, 1), (1, 0)
        for first in sentences_of(signature):
            for second in sentences_of(signature):
                both = renamed(signature, first, order), renamed(signature, second, order)
                self.assertEqual(say_the_same(signature, *both), say_the_same(signature, first, second))


class Refusals(unittest.TestCase):
    signature = ("signature", (2, 1), WRONG_SIGNATURES)
    sentence = ("sentence", ("all", 0, 1), WRONG_SENTENCES)

    def test_count_sentences(self):
        check_refusals(self, count_sentences, self.signature)

    def test_nth_sentence(self):
        check_refusals(self, nth_sentence, self.signature, ("index", 95, WRONG_INTEGERS + (96, 97)))

    def test_the_number_of_the_sentences_is_no_index(self):
        for signature in SIGNATURES:
            many = count_sentences(signature)
            check_refusals(self, nth_sentence, ("signature", signature, ()), ("index", many - 1, (many, -1)))

    def test_index_of_sentence(self):
        check_refusals(self, index_of_sentence, self.signature, self.sentence)

    def test_renamed(self):
        wrong = (
            None, 1, "01", (), (0,), (0, 1, 2), (0, 1, 0), (1, 0, 1), (0, 0), (1, 2), (0, 2), [1, 0], (True, 0),
            (1, False), (0, "1"), (0, None), (-1, 0), ((0,), (1,)),
        )
        check_refusals(self, renamed, self.signature, self.sentence, ("order", (1, 0), wrong))


if __name__ == "__main__":
    unittest.main()
