"""Points 32, 35 and 40 to 43: subsets, at least as many, and required nouns."""

import unittest

from allsomeno.tables import at_least, nouns_required, subsets

from tests.checking import SIGNATURES, WRONG_SIGNATURES, check_refusals, sentences_of, wrong_premises
from tests.reference import Stream, all_pairs, mixed_premises, required, small_models, truth

SEES_SOME = ("verb", "all", 0, True, 0, False, "some", 1)


def models_of(models, premises):
    """Those of the models that satisfy the premises."""
    return [model for model in models if all(truth(model, one) for one in premises)]


class Subsets(unittest.TestCase):
    def test_no_premises(self):
        for signature in SIGNATURES:
            self.assertEqual(subsets(signature, ()), ())
            self.assertEqual(at_least(signature, ()), ())

    def test_a_premise_and_a_chain(self):
        self.assertEqual(subsets((3, 0), (("all", 2, 1),)), ((2, 1),))
        self.assertEqual(subsets((3, 0), (("all", 0, 0),)), ())
        chain = (("all", 2, 3), ("all", 1, 2), ("all", 0, 1))
        self.assertEqual(subsets((4, 0), chain), ((0, 1), (0, 2), (0, 3), (1, 2), (1, 3), (2, 3)))
        self.assertEqual(at_least((4, 0), chain), ((1, 0), (2, 0), (2, 1), (3, 0), (3, 1), (3, 2)))

    def test_a_part_that_has_as_many_is_all_of_it(self):
        self.assertEqual(subsets((2, 0), (("all", 0, 1), ("as many", 0, 1))), ((0, 1), (1, 0)))
        self.assertEqual(subsets((2, 0), (("all", 0, 1), ("fewer", 1, 0))), ((0, 1), (1, 0)))
        self.assertEqual(subsets((2, 0), (("all", 0, 1), ("as many", 1, 0))), ((0, 1),))
        long = (("all", 0, 1), ("as many", 0, 2), ("as many", 2, 3), ("all", 1, 3))
        self.assertEqual(
            subsets((4, 0), long), ((0, 1), (0, 3), (1, 0), (1, 3), (3, 0), (3, 1)))

    def test_at_least_as_many(self):
        self.assertEqual(at_least((3, 0), (("as many", 0, 2),)), ((0, 2),))
        self.assertEqual(at_least((3, 0), (("fewer", 0, 2),)), ((2, 0),))
        self.assertEqual(at_least((3, 0), (("as many", 0, 1), ("fewer", 2, 1))), ((0, 1), (0, 2), (1, 2)))
        self.assertEqual(at_least((3, 0), (("as many", 0, 1), ("all", 2, 1))), ((0, 1), (0, 2), (1, 2)))

    def test_by_nothing_else(self):
        others = [one for one in sentences_of((2, 1)) if one[0] not in ("all", "as many", "fewer")]
        for one in others:
            self.assertEqual(subsets((2, 1), (one,)), ())
            self.assertEqual(at_least((2, 1), (one,)), ())
        self.assertEqual(subsets((2, 0), (("no", 0, 0), ("some", 1, 1))), ())
        self.assertEqual(at_least((2, 0), (("no", 0, 0),)), ())

    def test_mixed_premises(self):
        stream = Stream(32)
        for signature in SIGNATURES:
            sentences = sentences_of(signature)
            for _ in range(60):
                premises = mixed_premises(sentences, stream)
                inside, enough = all_pairs(signature[0], premises)
                self.assertEqual(subsets(signature, premises), tuple(sorted(p for p in inside if p[0] != p[1])))
                self.assertEqual(at_least(signature, premises), tuple(sorted(p for p in enough if p[0] != p[1])))

    def test_so_it_is_in_every_model_of_the_premises(self):
        models, sentences = small_models((3, 0), 3), sentences_of((3, 0))
        stream = Stream(33)
        for _ in range(60):
            premises = mixed_premises(sentences, stream, 4)
            for model in models_of(models, premises):
                for x, y in subsets((3, 0), premises):
                    self.assertIs(truth(model, ("all", x, y)), True)
                for x, y in at_least((3, 0), premises):
                    self.assertIs(truth(model, ("as many", x, y)), True)


class Required(unittest.TestCase):
    def test_no_premises(self):
        self.assertEqual(nouns_required((4, 2), ()), ())

    def test_each_rule(self):
        self.assertEqual(nouns_required((3, 1), (("some", 0, 2),)), (0, 2))
        self.assertEqual(nouns_required((3, 1), (("some not", 2, 0),)), (2,))
        self.assertEqual(nouns_required((3, 1), (("fewer", 0, 1),)), (1,))
        self.assertEqual(nouns_required((3, 1), (("some", 0, 0), ("all", 0, 2))), (0, 2))
        self.assertEqual(nouns_required((3, 1), (("some", 0, 0), ("as many", 2, 0))), (0, 2))
        self.assertEqual(nouns_required((3, 1), (("some", 0, 0), ("as many", 0, 2))), (0,))
        self.assertEqual(nouns_required((3, 1), (("self", "some", 1, False, 0),)), (1,))
        self.assertEqual(nouns_required((3, 1), (("verb", "some", 1, True, 0, True, "all", 2),)), (1,))
        self.assertEqual(nouns_required((3, 1), (("verb", "some", 1, True, 0, True, "some", 2),)), (1, 2))

    def test_some_for_all(self):
        for does in (True, False):
            for by in (True, False):
                needs = ("verb", "all", 0, does, 1, by, "some", 2)
                self.assertEqual(nouns_required((3, 2), (needs,)), ())
                self.assertEqual(nouns_required((3, 2), (needs, ("some", 2, 2))), (2,))
                self.assertEqual(nouns_required((3, 2), (needs, ("some", 0, 0))), (0, 2))
                everyone = needs[:6] + ("all", 2)
                self.assertEqual(nouns_required((3, 2), (everyone, ("some", 0, 0))), (0,))

    def test_one_leads_to_the_next_one(self):
        chain = (("all", 2, 1), ("verb", "all", 3, True, 0, False, "some", 2), ("as many", 3, 0), ("some", 0, 0))
        self.assertEqual(nouns_required((4, 1), chain), (0, 1, 2, 3))
        self.assertEqual(nouns_required((4, 1), chain[:3]), ())

    def test_by_nothing_else(self):
        for one in sentences_of((2, 1)):
            if one[0] in ("all", "no", "as many") or one[1] == "all":
                self.assertEqual(nouns_required((2, 1), (one,)), ())

    def test_mixed_premises(self):
        stream = Stream(35)
        for signature in SIGNATURES:
            sentences = sentences_of(signature)
            for _ in range(60):
                premises = mixed_premises(sentences, stream)
                self.assertEqual(nouns_required(signature, premises), required(signature[0], premises))

    def test_some_individual_has_it_in_every_model_of_the_premises(self):
        models, sentences = small_models((2, 1), 2), sentences_of((2, 1))
        stream = Stream(36)
        for _ in range(60):
            premises = mixed_premises(sentences, stream, 3)
            for model in models_of(models, premises):
                for x in nouns_required((2, 1), premises):
                    self.assertIs(truth(model, ("some", x, x)), True)


class OtherPremises(unittest.TestCase):
    def test_further_premises_take_nothing_away(self):
        stream, signature = Stream(40), (4, 1)
        sentences = sentences_of(signature)
        for _ in range(150):
            premises = mixed_premises(sentences, stream, 7)
            further = premises + (sentences[stream.below(len(sentences))],)
            for function in (subsets, at_least, nouns_required):
                self.assertLessEqual(set(function(signature, premises)), set(function(signature, further)))

    def test_exchanged_or_doubled(self):
        stream, signature = Stream(41), (4, 1)
        sentences = sentences_of(signature)
        for _ in range(150):
            premises = mixed_premises(sentences, stream, 7)
            for other in (premises[::-1], premises + premises[:1], premises[1:] + premises[:1]):
                for function in (subsets, at_least, nouns_required):
                    self.assertEqual(function(signature, premises), function(signature, other))


class Refusals(unittest.TestCase):
    def test_each_function(self):
        for function in (subsets, at_least, nouns_required):
            check_refusals(
                self, function, ("signature", (2, 1), WRONG_SIGNATURES),
                ("premises", (SEES_SOME,) * 8, wrong_premises((2, 1))))


class Example(unittest.TestCase):
    def test_of_point_43(self):
        premises = (
            ("all", 0, 1), SEES_SOME, ("verb", "all", 1, False, 0, False, "all", 1), ("as many", 0, 2), ("some", 2, 2))
        self.assertEqual(subsets((3, 1), premises), ((0, 1),))
        self.assertEqual(at_least((3, 1), premises), ((0, 2), (1, 0), (1, 2)))
        self.assertEqual(nouns_required((3, 1), premises), (0, 1, 2))


if __name__ == "__main__":
    unittest.main()
