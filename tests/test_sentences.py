"""Points 3 to 13 and 18: signatures, sentences, premises, negations, other voices, and what says the same."""

import unittest

from allsomeno.sentences import are_premises, is_sentence, is_signature
from allsomeno.sentences import negation, other_voice, say_the_same, told_form

from tests.checking import SIGNATURES, WRONG_SIGNATURES, check_refusals
from tests.checking import sentences_of, wrong_premises, wrong_sentences
from tests.reference import Stream, mixed_model, small_models, truth

SEES = ("verb", "all", 0, True, 0, False, "some", 1)
ALL_SEE_ALL = ("verb", "all", 0, True, 0, False, "all", 1)
SHORT_WRONG = (
    None, True, 0, "all", (), ["all", 0, 1], ("all", 0), ("all", 0, 1, 0), ("all", 0, 2), ("all", 0, True),
    ("all", -1, 0), ("every", 0, 1), SEES[:-1], SEES + (0,), ("verb", "all", 0, 1, 0, False, "some", 1),
    ("verb", "all", 0, True, 1, False, "some", 1), ("self", "all", 0, True, False), ("one", 0),
)


def models_to_look_at(signature):
    """All models of at most two individuals, and some larger ones."""
    stream = Stream(12)
    larger = [mixed_model(signature, stream) for _ in range(120)]
    return small_models(signature, 2) + larger


class Signatures(unittest.TestCase):
    def test_right_ones(self):
        for nouns in range(1, 5):
            for verbs in range(3):
                self.assertIs(is_signature((nouns, verbs)), True)

    def test_wrong_ones(self):
        for wrong in WRONG_SIGNATURES:
            self.assertIs(is_signature(wrong), False, wrong)


class Sentences(unittest.TestCase):
    def test_all_sentences_are_some(self):
        for signature in SIGNATURES:
            for sentence in sentences_of(signature):
                self.assertIs(is_sentence(signature, sentence), True, sentence)

    def test_wrong_ones(self):
        for signature in ((1, 0), (1, 1), (2, 1), (4, 2)):
            for wrong in wrong_sentences(signature):
                self.assertIs(is_sentence(signature, wrong), False, wrong)

    def test_nouns_and_verbs_of_larger_signatures(self):
        larger = sentences_of((3, 2))
        for signature in ((3, 1), (2, 2), (1, 0), (3, 0)):
            own = sentences_of(signature)
            for sentence in larger:
                self.assertIs(is_sentence(signature, sentence), sentence in own)

    def test_no_verbs_no_sentences_with_verbs(self):
        self.assertIs(is_sentence((4, 0), ("self", "all", 0, True, 0)), False)
        self.assertIs(is_sentence((4, 0), SEES), False)


class Premises(unittest.TestCase):
    def test_none_to_eight(self):
        for many in range(9):
            self.assertIs(are_premises((2, 1), (SEES,) * many), True)

    def test_nine_are_too_many(self):
        self.assertIs(are_premises((2, 1), (SEES,) * 9), False)

    def test_all_kinds_of_sentences(self):
        sentences = sentences_of((2, 2))
        for at in range(0, len(sentences), 8):
            self.assertIs(are_premises((2, 2), tuple(sentences[at:at + 8])), True)

    def test_wrong_ones(self):
        for signature in ((1, 0), (2, 1), (4, 2)):
            for wrong in wrong_premises(signature):
                self.assertIs(are_premises(signature, wrong), False, wrong)

    def test_one_wrong_sentence_at_any_place(self):
        for at in range(8):
            premises = [SEES] * 8
            premises[at] = ("all", 0, 2)
            self.assertIs(are_premises((2, 1), tuple(premises)), False)


class Negation(unittest.TestCase):
    def test_of_each_word(self):
        pairs = (
            (("all", 0, 1), ("some not", 0, 1)),
            (("no", 1, 0), ("some", 1, 0)),
            (("as many", 0, 1), ("fewer", 0, 1)),
            (SEES, ("verb", "some", 0, False, 0, False, "all", 1)),
            (("verb", "some", 1, True, 0, True, "some", 1), ("verb", "all", 1, False, 0, True, "all", 1)),
            (("self", "all", 1, True, 0), ("self", "some", 1, False, 0)),
        )
        for sentence, negative in pairs:
            self.assertEqual(negation((2, 1), sentence), negative)
            self.assertEqual(negation((2, 1), negative), sentence)

    def test_of_the_negation_is_the_sentence(self):
        for signature in SIGNATURES:
            for sentence in sentences_of(signature):
                negative = negation(signature, sentence)
                self.assertIs(is_sentence(signature, negative), True)
                self.assertEqual(negation(signature, negative), sentence)

    def test_holds_where_the_sentence_does_not(self):
        signature = (2, 1)
        for model in models_to_look_at(signature):
            for sentence in sentences_of(signature):
                self.assertNotEqual(truth(model, sentence), truth(model, negation(signature, sentence)))

    def test_truths_stay_truths(self):
        for sentence in sentences_of((2, 1)):
            negative = negation((2, 1), sentence)
            self.assertEqual([item.__class__ for item in negative], [item.__class__ for item in sentence])


class OtherVoice(unittest.TestCase):
    def test_of_each_word(self):
        self.assertEqual(other_voice((2, 1), ("no", 0, 1)), ("no", 1, 0))
        self.assertEqual(other_voice((2, 1), ("some", 1, 0)), ("some", 0, 1))
        self.assertEqual(other_voice((2, 1), ("some", 1, 1)), ("some", 1, 1))
        self.assertEqual(other_voice((2, 1), ALL_SEE_ALL), ("verb", "all", 1, True, 0, True, "all", 0))
        some = ("verb", "some", 1, False, 0, True, "some", 0)
        self.assertEqual(other_voice((2, 1), some), ("verb", "some", 0, False, 0, False, "some", 1))

    def test_others_have_none(self):
        others = (
            ("all", 0, 1), ("some not", 0, 1), ("as many", 0, 0), ("fewer", 0, 1), SEES,
            ("verb", "some", 0, True, 0, True, "all", 0), ("self", "all", 0, True, 0),
        )
        for sentence in others:
            self.assertIsNone(other_voice((2, 1), sentence))

    def test_which_ones_have_one(self):
        for sentence in sentences_of((3, 2)):
            has_one = sentence[0] in ("no", "some") or sentence[0] == "verb" and sentence[1] == sentence[6]
            self.assertEqual(other_voice((3, 2), sentence) is not None, has_one)

    def test_holds_in_the_same_models_and_turns_back(self):
        signature = (2, 1)
        models = models_to_look_at(signature)
        for sentence in sentences_of(signature):
            turned = other_voice(signature, sentence)
            if turned is not None:
                self.assertEqual(other_voice(signature, turned), sentence)
                for model in models:
                    self.assertEqual(truth(model, sentence), truth(model, turned))


class ToldForm(unittest.TestCase):
    def test_of_each_word(self):
        self.assertEqual(told_form((2, 1), ("no", 1, 0)), ("no", 0, 1))
        self.assertEqual(told_form((2, 1), ("some", 0, 1)), ("some", 0, 1))
        self.assertEqual(told_form((2, 1), ALL_SEE_ALL), ALL_SEE_ALL)
        self.assertEqual(told_form((2, 1), ("verb", "all", 1, True, 0, True, "all", 0)), ALL_SEE_ALL)
        backward = ("verb", "some", 0, False, 0, False, "some", 1)
        self.assertEqual(told_form((2, 1), ("verb", "some", 1, False, 0, True, "some", 0)), backward)

    def test_others_are_their_own(self):
        for sentence in sentences_of((3, 2)):
            turned = other_voice((3, 2), sentence)
            told = told_form((3, 2), sentence)
            if turned is None:
                self.assertEqual(told, sentence)
            elif sentence[0] == "verb":
                self.assertIn(told, (sentence, turned))
                self.assertIs(told[5], False)
            else:
                self.assertEqual(told, min(sentence, turned))


class SayTheSame(unittest.TestCase):
    def test_ordinary(self):
        self.assertIs(say_the_same((2, 1), ("some", 0, 1), ("some", 1, 0)), True)
        self.assertIs(say_the_same((2, 1), ALL_SEE_ALL, other_voice((2, 1), ALL_SEE_ALL)), True)
        self.assertIs(say_the_same((2, 1), ("all", 0, 1), ("all", 1, 0)), False)
        self.assertIs(say_the_same((2, 1), SEES, ("verb", "some", 1, True, 0, True, "all", 0)), False)

    def test_what_holds_in_all_models_or_in_none(self):
        always = [(word, x, x) for word in ("all", "as many") for x in range(2)]
        never = [(word, x, x) for word in ("some not", "fewer") for x in range(2)]
        for first in always + never:
            for second in always + never:
                same = (first in always) == (second in always)
                self.assertIs(say_the_same((2, 1), first, second), same)
        self.assertIs(say_the_same((2, 1), ("no", 0, 0), ("no", 1, 1)), False)
        self.assertIs(say_the_same((2, 1), ("all", 0, 0), ("as many", 0, 1)), False)

    def test_if_and_only_if_they_hold_in_the_same_models(self):
        for signature in ((1, 1), (2, 0), (2, 1)):
            models = models_to_look_at(signature)
            answers = {one: [truth(model, one) for model in models] for one in sentences_of(signature)}
            for first in answers:
                for second in answers:
                    same = answers[first] == answers[second]
                    self.assertIs(say_the_same(signature, first, second), same, (first, second))

    def test_negations_say_the_same_if_and_only_if_the_sentences_do(self):
        signature = (2, 1)
        for first in sentences_of(signature):
            for second in sentences_of(signature):
                negatives = negation(signature, first), negation(signature, second)
                self.assertEqual(
                    say_the_same(signature, *negatives), say_the_same(signature, first, second), (first, second))


class Refusals(unittest.TestCase):
    def test_each_function(self):
        for function in (negation, other_voice, told_form):
            check_refusals(
                self, function, ("signature", (2, 1), WRONG_SIGNATURES), ("sentence", SEES, SHORT_WRONG))

    def test_first_and_second(self):
        check_refusals(
            self, say_the_same, ("signature", (2, 1), WRONG_SIGNATURES),
            ("first", SEES, SHORT_WRONG), ("second", ("no", 0, 1), SHORT_WRONG))

    def test_a_sentence_of_a_larger_signature(self):
        for function in (negation, other_voice, told_form):
            check_refusals(
                self, function, ("signature", (1, 0), ()), ("sentence", ("all", 0, 0), (("all", 0, 1), SEES)))


class Example(unittest.TestCase):
    def test_of_point_19(self):
        self.assertEqual(
            negation((2, 1), ("verb", "all", 0, True, 0, False, "some", 1)),
            ("verb", "some", 0, False, 0, False, "all", 1))


if __name__ == "__main__":
    unittest.main()
