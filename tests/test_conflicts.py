"""Points 44, 45, 50, 51 and 53: the conflicts of premises, and whether premises can hold together."""

import unittest

from allsomeno.conflicts import can_hold, conflicts
from allsomeno.tables import nouns_required

from tests.cases import TRUTHS, verb
from tests.checking import SIGNATURES, WRONG_SIGNATURES, check_refusals, sentences_of, wrong_premises
from tests.reference import Stream, is_model_of, mixed_premises, small_models, truth
from tests.second import conflicts_of

SMALL = ((1, 0), (2, 0), (1, 1), (2, 1))


class Premises(unittest.TestCase):
    """The conflicts of the form ("premise", index)."""

    def check(self, signature, premises, *indexes):
        self.assertEqual(conflicts(signature, premises), tuple(("premise", index) for index in indexes))
        self.assertIs(can_hold(signature, premises), indexes == ())

    def test_no(self):
        self.check((2, 0), (("no", 0, 1), ("some", 0, 1)), 0)
        self.check((2, 0), (("some", 1, 0), ("no", 0, 1), ("no", 1, 0)), 1, 2)
        self.check((2, 0), (("some", 0, 0), ("no", 1, 0), ("all", 0, 1)), 1)
        self.check((3, 0), (("some", 0, 2), ("all", 2, 1), ("no", 0, 1)), 2)
        self.check((2, 1), (("verb", "some", 0, True, 0, False, "all", 1), ("no", 0, 0)), 1)
        self.check((2, 1), (("self", "some", 0, True, 0), ("all", 0, 1), ("no", 0, 1)), 2)

    def test_no_of_one_noun(self):
        self.check((1, 0), (("no", 0, 0), ("some", 0, 0)), 0)
        self.check((1, 0), (("no", 0, 0),))
        self.check((2, 0), (("no", 0, 0), ("some", 1, 1)))
        self.check((2, 0), (("no", 0, 0), ("some not", 0, 1)), 0)
        self.check((2, 0), (("no", 0, 0), ("fewer", 1, 0)), 0)
        self.check((2, 0), (("no", 0, 0), ("some", 1, 1), ("as many", 0, 1)), 0)

    def test_no_of_two_kinds(self):
        self.check((2, 0), (("no", 0, 1), ("some", 0, 0), ("some", 1, 1)))
        self.check((3, 0), (("no", 0, 1), ("some", 0, 2), ("some", 1, 2)))

    def test_some_not(self):
        self.check((2, 0), (("some not", 0, 1), ("all", 0, 1)), 0)
        self.check((2, 0), (("some not", 1, 0), ("all", 0, 1)))
        self.check((3, 0), (("all", 0, 1), ("all", 1, 2), ("as many", 0, 2), ("some not", 2, 0)), 3)
        self.check((1, 0), (("some not", 0, 0),), 0)

    def test_fewer(self):
        self.check((2, 0), (("fewer", 0, 1), ("as many", 0, 1)), 0)
        self.check((2, 0), (("fewer", 1, 0), ("all", 0, 1)), 0)
        self.check((2, 0), (("fewer", 0, 1), ("all", 0, 1)))
        self.check((2, 0), (("fewer", 0, 1), ("fewer", 1, 0)), 0, 1)
        self.check((3, 0), (("fewer", 0, 1), ("fewer", 1, 2), ("fewer", 2, 0)), 0, 1, 2)
        self.check((1, 0), (("fewer", 0, 0),), 0)

    def test_all_with_some(self):
        for does in TRUTHS:
            for by in TRUTHS:
                told = verb("all", 0, does, 0, by, "some", 1)
                contrary = verb("all", 0, not does, 0, by, "all", 1)
                self.check((2, 1), (told, contrary, ("some", 0, 0)), 0)
                self.check((2, 1), (contrary, ("some", 0, 0), told), 2)
                # The other voice of the contrary is the same.
                self.check((2, 1), (told, verb("all", 1, not does, 0, not by, "all", 0), ("some", 0, 0)), 0)
                self.check((2, 1), (told, contrary))
                self.check((2, 1), (told, contrary, ("some", 1, 1)))
                self.check((2, 1), (told, verb("all", 1, not does, 0, by, "all", 0), ("some", 0, 0)))
                self.check((2, 2), (told, verb("all", 0, not does, 1, by, "all", 1), ("some", 0, 0)))
                self.check((2, 1), (told, verb("all", 0, does, 0, by, "all", 1), ("some", 0, 0)))

    def test_all_with_some_by_a_mark(self):
        for does in TRUTHS:
            for by in TRUTHS:
                told = verb("all", 0, does, 0, by, "some", 1)
                self.check((2, 1), (told, verb("some", 0, not does, 0, by, "all", 1)), 0)
                self.check((2, 1), (told, verb("some", 0, does, 0, by, "all", 1)))
                # A mark in the other voice tells of the other direction.
                self.check((2, 1), (told, verb("some", 0, not does, 0, not by, "all", 1)))
                self.check(
                    (3, 1), (told, ("all", 2, 0), ("all", 1, 2), verb("some", 2, not does, 0, by, "all", 1)), 0)

    def test_all_with_some_of_one_noun(self):
        for does in TRUTHS:
            for by in TRUTHS:
                told = verb("all", 0, does, 0, by, "some", 0)
                self.check((1, 1), (told, verb("some", 0, not does, 0, by, "all", 0)), 0)
                self.check((1, 1), (told, ("self", "all", 0, not does, 0), ("some", 0, 0)))

    def test_some_with_some(self):
        for does in TRUTHS:
            for by in TRUTHS:
                told = verb("some", 0, does, 0, by, "some", 1)
                self.check((2, 1), (told, verb("all", 0, not does, 0, by, "all", 1)), 0)
                self.check((2, 1), (verb("all", 1, not does, 0, not by, "all", 0), told), 1)
                self.check((2, 1), (told, verb("all", 0, does, 0, by, "all", 1)))
                self.check((2, 1), (told, verb("all", 1, not does, 0, by, "all", 0)))
                self.check((2, 1), (told, verb("some", 0, not does, 0, by, "all", 1)))
                self.check((2, 2), (told, verb("all", 0, not does, 1, by, "all", 1)))
                above = (("all", 0, 2), ("all", 1, 3), verb("all", 2, not does, 0, by, "all", 3), told)
                self.check((4, 1), above, 3)

    def test_others_are_none(self):
        for sentence in sentences_of((2, 1)):
            if sentence not in (("some not", 0, 0), ("some not", 1, 1), ("fewer", 0, 0), ("fewer", 1, 1)):
                self.check((2, 1), (sentence,))
                self.check((2, 1), (sentence, sentence))


class Pairs(unittest.TestCase):
    def test_pair_and_alone(self):
        for does in TRUTHS:
            for by in TRUTHS:
                one = verb("all", 0, does, 0, by, "all", 1)
                other = verb("all", 0, not does, 0, by, "all", 1)
                first, second = (("one", 1), ("one", 0)) if by else (("one", 0), ("one", 1))
                both = (one, other, ("some", 0, 0), ("some", 1, 1))
                self.assertEqual(conflicts((2, 1), both), (("pair", 0, first, second),))
                self.assertEqual(conflicts((2, 1), both[:3]), ())
                self.assertIs(can_hold((2, 1), both), False)
                self.assertIs(can_hold((2, 1), both[:3]), True)

    def test_of_a_kind_and_the_same_kind(self):
        for does in TRUTHS:
            for by in TRUTHS:
                one = verb("all", 0, does, 1, by, "all", 0)
                told = (("some", 0, 0), one, verb("all", 0, not does, 1, by, "all", 0))
                found = (("pair", 1, ("one", 0), ("one", 0)), ("self", 1, ("one", 0)))
                self.assertEqual(conflicts((1, 2), told), found)

    def test_of_two_marks(self):
        for does in TRUTHS:
            told = (verb("some", 0, does, 0, False, "all", 1), verb("some", 1, not does, 0, True, "all", 0))
            marks = (("mark", 0, does, 0, False, 1), ("mark", 1, not does, 0, True, 0))
            self.assertEqual(conflicts((2, 1), told), (("pair", 0) + marks,))
            self.assertEqual(conflicts((2, 1), told[::-1]), (("pair", 0) + marks,))

    def test_of_a_mark_and_premises(self):
        for does in TRUTHS:
            told = (
                verb("some", 0, does, 0, False, "all", 1), verb("all", 2, not does, 0, False, "all", 1), ("all", 0, 2),
                ("some", 1, 1))
            found = conflicts((3, 1), told)
            self.assertIn(("pair", 0, ("mark", 0, does, 0, False, 1), ("one", 1)), found)
            self.assertEqual(found, conflicts_of((3, 1), told))

    def test_alone(self):
        for does in TRUTHS:
            told = (("self", "some", 0, does, 0), ("self", "all", 0, not does, 0))
            self.assertEqual(conflicts((1, 1), told), (("self", 0, ("self", 0, does, 0)),))
            self.assertEqual(conflicts((1, 1), told[:1]), ())
            self.assertEqual(conflicts((1, 1), told[1:]), ())
            twice = (("self", "all", 0, does, 1), ("self", "all", 1, not does, 1), ("some", 0, 1))
            self.assertEqual(conflicts((2, 2), twice), (("self", 1, ("both", 0, 1)),))
            self.assertEqual(conflicts((2, 2), twice[:2] + (("some", 0, 0), ("some", 1, 1))), ())
            self.assertEqual(conflicts((2, 2), twice[:1] + (("self", "all", 1, not does, 0), ("some", 0, 1))), ())

    def test_alone_against_a_pair(self):
        for does in TRUTHS:
            told = (("self", "some", 0, does, 0), verb("all", 0, not does, 0, False, "all", 0))
            self.assertEqual(conflicts((1, 1), told), (("self", 0, ("self", 0, does, 0)),))


class Order(unittest.TestCase):
    def test_of_all_forms(self):
        premises = (
            ("fewer", 0, 0), verb("all", 0, True, 0, False, "all", 1), verb("all", 0, False, 0, False, "all", 1),
            verb("all", 0, True, 1, True, "all", 1), verb("all", 0, False, 1, True, "all", 1), ("some", 1, 1),
            ("self", "all", 1, True, 1), ("self", "all", 1, False, 1))
        one, other = ("one", 0), ("one", 1)
        self.assertEqual(conflicts((2, 2), premises), (
            ("premise", 0), ("pair", 0, one, other), ("pair", 1, other, one), ("self", 1, other)))

    def test_pairs_by_the_first_kind_in_the_sequence_of_the_kinds(self):
        told = (("self", "some", 1, True, 0), ("some", 0, 1))
        two = tuple(verb("all", 1, does, 0, False, "all", 1) for does in TRUTHS)
        kinds = [("one", 1), ("self", 1, True, 0), ("both", 0, 1)]
        pairs = tuple(("pair", 0, first, second) for first in kinds for second in kinds)
        self.assertEqual(conflicts((2, 1), told + two), pairs + tuple(("self", 0, kind) for kind in kinds))

    def test_a_noun_of_no_required_kind_has_no_pair(self):
        two = tuple(verb("all", 0, does, 0, False, "all", 0) for does in TRUTHS)
        self.assertEqual(conflicts((2, 1), two + (("some", 1, 1),)), ())


class Mixed(unittest.TestCase):
    def test_no_premises_and_eight(self):
        for signature in SIGNATURES:
            self.assertEqual(conflicts(signature, ()), ())
            self.assertIs(can_hold(signature, ()), True)
            self.assertEqual(conflicts(signature, (("no", 0, 0),) * 8), ())
            eight = conflicts(signature, (("fewer", 0, 0),) * 8)
            self.assertEqual(eight, tuple(("premise", index) for index in range(8)))

    def test_mixed_premises(self):
        stream = Stream(44)
        for signature in SIGNATURES:
            sentences = sentences_of(signature)
            for _ in range(70):
                premises = mixed_premises(sentences, stream)
                found = conflicts_of(signature, premises)
                self.assertEqual(conflicts(signature, premises), found)
                self.assertIs(can_hold(signature, premises), found == ())

    def test_small_models_satisfy_premises_only_if_these_have_no_conflict(self):
        stream = Stream(45)
        for signature in SMALL:
            models, sentences = small_models(signature, 2), sentences_of(signature)
            for _ in range(80):
                premises = mixed_premises(sentences, stream, 4)
                if any(is_model_of(model, premises) for model in models):
                    self.assertIs(can_hold(signature, premises), True, premises)

    def test_all_pairs_of_sentences_of_one_noun(self):
        models, sentences = small_models((1, 1), 2), sentences_of((1, 1))
        held = {one: [truth(model, one) for model in models] for one in sentences}
        for one in sentences:
            for other in sentences:
                together = any(a and b for a, b in zip(held[one], held[other]))
                # Two sentences about one noun and one verb hold together in a small model, if at all.
                self.assertIs(can_hold((1, 1), (one, other)), together, (one, other))


class WhoIsThere(unittest.TestCase):
    """Point 50."""

    def test_nobody_is_there_if_and_only_if_to_say_so_is_a_conflict(self):
        stream = Stream(50)
        for signature in SMALL:
            models, sentences = small_models(signature, 2), sentences_of(signature)
            for _ in range(40):
                premises = mixed_premises(sentences, stream, 3)
                if not can_hold(signature, premises):
                    continue
                satisfying = [model for model in models if is_model_of(model, premises)]
                for x in range(signature[0]):
                    some = ("some", x, x)
                    self.assertIs(
                        can_hold(signature, premises + (("no", x, x),)), x not in nouns_required(signature, premises))
                    for model in satisfying:
                        self.assertTrue(can_hold(signature, premises + (some,)) or not truth(model, some))
                        self.assertTrue(x not in nouns_required(signature, premises) or truth(model, some))


class OtherPremises(unittest.TestCase):
    """Point 51."""

    def test_left_out_exchanged_or_doubled(self):
        stream, signature = Stream(51), (3, 1)
        sentences = sentences_of(signature)
        for _ in range(200):
            premises = mixed_premises(sentences, stream, 7)
            holds = can_hold(signature, premises)
            for other in (premises[::-1], premises[1:] + premises[:1], premises + premises[:1]):
                self.assertIs(can_hold(signature, other), holds)
            for at in range(len(premises)):
                self.assertTrue(can_hold(signature, premises[:at] + premises[at + 1:]) or not holds)

    def test_nouns_and_verbs_that_no_premise_names(self):
        stream = Stream(511)
        for signature in ((1, 0), (2, 0), (2, 1), (3, 1)):
            sentences = sentences_of(signature)
            for _ in range(80):
                premises = mixed_premises(sentences, stream)
                found = conflicts(signature, premises)
                for larger in ((4, 2), (signature[0] + 1, signature[1]), (signature[0], signature[1] + 1)):
                    self.assertEqual(conflicts(larger, premises), found)
                    self.assertIs(can_hold(larger, premises), found == ())


class Refusals(unittest.TestCase):
    def test_each_function(self):
        for function in (conflicts, can_hold):
            for signature in ((2, 1), (1, 0), (4, 2)):
                check_refusals(
                    self, function, ("signature", signature, WRONG_SIGNATURES),
                    ("premises", (("some", 0, 0),) * 8, wrong_premises(signature)))


if __name__ == "__main__":
    unittest.main()
