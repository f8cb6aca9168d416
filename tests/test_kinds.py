"""Points 33, 34 and 36 to 43: kinds, the nouns above them, which are required, and what is forced."""

import unittest

from allsomeno.kinds import forced_between, forced_to_itself, is_kind, kinds_required, nouns_above

from tests.checking import SIGNATURES, WRONG_INTEGERS, WRONG_SIGNATURES, check_refusals
from tests.checking import sentences_of, wrong_premises, wrong_versions
from tests.reference import Stream, above, acts, forced, forced_alone, has, homes_of, is_of_kind
from tests.reference import kinds_of, mixed_premises, required, small_models, stated, truth, word_of

MARK = ("mark", 0, True, 0, False, 1)
MARK_BY = ("mark", 0, True, 0, True, 1)
ALL_SEE = ("verb", "all", 0, True, 0, False, "all", 1)
ALL_SEEN = ("verb", "all", 0, True, 0, True, "all", 1)


def turned(sentence):
    """The sentence, or the kind, with `does` turned."""
    return tuple(False if item is True and at < 4 else item for at, item in enumerate(sentence))


def wrong_kinds(signature):
    """Values that are no kinds of the signature."""
    found = [
        None, True, 0, "one", (), [], ("one",), ("both", 0), ("both", 1, 0), ("both", 0, 0), ("some", 0, 1),
        ("clash",), ("one", signature[0]), ("both", 0, signature[0]), ("mark", 0, True, signature[1], False, 0),
        ("self", 0, True, signature[1]), ("self", signature[0], True, 0),
    ]
    for kind in kinds_of(signature):
        found.extend(wrong_versions(signature, kind))
    return found


class IsKind(unittest.TestCase):
    def test_right_ones(self):
        for signature in SIGNATURES:
            for kind in kinds_of(signature):
                self.assertIs(is_kind(signature, kind), True, kind)

    def test_wrong_ones(self):
        for signature in ((1, 0), (2, 1), (4, 2)):
            for wrong in wrong_kinds(signature):
                self.assertIs(is_kind(signature, wrong), False, wrong)

    def test_kinds_of_larger_signatures(self):
        for signature in ((3, 1), (2, 2), (1, 0), (3, 0)):
            own = kinds_of(signature)
            for kind in kinds_of((3, 2)):
                self.assertIs(is_kind(signature, kind), kind in own)

    def test_sentences_are_none(self):
        for sentence in sentences_of((2, 1)):
            self.assertIs(is_kind((2, 1), sentence), False)


class Above(unittest.TestCase):
    def test_own_nouns(self):
        self.assertEqual(nouns_above((3, 1), (), ("one", 1)), (1,))
        self.assertEqual(nouns_above((3, 1), (), ("both", 0, 2)), (0, 2))
        self.assertEqual(nouns_above((3, 1), (), MARK), (0,))
        self.assertEqual(nouns_above((3, 1), (), ("self", 2, False, 0)), (2,))

    def test_of_which_they_are_subsets(self):
        premises = (("all", 0, 1), ("all", 1, 2), ("all", 3, 0))
        self.assertEqual(nouns_above((4, 1), premises, ("one", 1)), (1, 2))
        self.assertEqual(nouns_above((4, 1), premises, ("both", 2, 3)), (0, 1, 2, 3))
        self.assertEqual(nouns_above((4, 1), premises, MARK), (0, 1, 2))

    def test_mixed_premises(self):
        stream = Stream(331)
        for signature in ((2, 1), (4, 0), (3, 2)):
            sentences, kinds = sentences_of(signature), kinds_of(signature)
            for _ in range(40):
                premises = mixed_premises(sentences, stream)
                for kind in kinds[::3]:
                    self.assertEqual(
                        nouns_above(signature, premises, kind), above(signature[0], premises, kind))


class Required(unittest.TestCase):
    def test_none(self):
        self.assertEqual(kinds_required((4, 2), ()), ())

    def test_what_each_premise_states(self):
        for premise, kinds in (
            (("some", 1, 0), (("one", 0), ("one", 1), ("both", 0, 1))),
            (("some", 1, 1), (("one", 1),)),
            (("some not", 1, 0), (("one", 1),)),
            (("fewer", 1, 0), (("one", 0),)),
            (("verb", "some", 1, True, 0, False, "some", 0), (("one", 0), ("one", 1))),
            (("verb", "some", 1, False, 0, True, "all", 0), (("one", 1), ("mark", 1, False, 0, True, 0))),
            (("self", "some", 1, False, 0), (("one", 1), ("self", 1, False, 0))),
        ):
            self.assertEqual(kinds_required((2, 1), (premise,)), kinds)

    def test_other_premises_state_none(self):
        for one in sentences_of((2, 1)):
            if one[0] in ("all", "no", "as many") or one[1] == "all":
                self.assertEqual(kinds_required((2, 1), (one,)), ())

    def test_in_the_sequence_of_the_premises_each_once(self):
        self_one, both = ("self", "some", 1, True, 0), ("some", 2, 0)
        mark = ("verb", "some", 2, True, 0, False, "all", 1)
        kinds = (("self", 1, True, 0), ("both", 0, 2), ("mark", 2, True, 0, False, 1))
        singles = (("one", 0), ("one", 1), ("one", 2))
        self.assertEqual(kinds_required((3, 1), (self_one, both, mark, both, self_one)), singles + kinds)
        self.assertEqual(kinds_required((3, 1), (mark, ("some", 0, 2), self_one)), singles + kinds[:0:-1] + kinds[:1])

    def test_mixed_premises(self):
        stream = Stream(36)
        for signature in SIGNATURES:
            sentences = sentences_of(signature)
            for _ in range(60):
                premises = mixed_premises(sentences, stream)
                singles = [("one", x) for x in required(signature[0], premises)]
                others = [kind for kind in stated(premises) if kind[0] != "one"]
                self.assertEqual(kinds_required(signature, premises), tuple(singles + others))

    def test_an_individual_of_each_in_every_model_of_the_premises(self):
        models, sentences = small_models((2, 1), 2), sentences_of((2, 1))
        stream = Stream(37)
        for _ in range(50):
            premises = mixed_premises(sentences, stream, 3)
            kinds = kinds_required((2, 1), premises)
            over = {kind: nouns_above((2, 1), premises, kind) for kind in kinds}
            for model in models:
                if all(truth(model, one) for one in premises):
                    homes = homes_of(model)
                    for kind in kinds:
                        fits = [one for one in range(len(homes)) if is_of_kind(model, homes, one, kind)]
                        self.assertTrue(any(all(has(model, homes, one, x) for x in over[kind]) for one in fits))


class Forced(unittest.TestCase):
    def between(self, premises, first, second, verb=0):
        return forced_between((3, 2), premises, verb, first, second)

    def test_nothing_by_no_premises(self):
        self.assertEqual(self.between((), ("one", 0), ("one", 1)), "free")
        self.assertEqual(forced_to_itself((3, 2), (), 0, ("one", 0)), "free")

    def test_by_premises(self):
        one, other = ("one", 0), ("one", 1)
        self.assertEqual(self.between((ALL_SEE,), one, other), "yes")
        self.assertEqual(self.between((ALL_SEE,), other, one), "free")
        self.assertEqual(self.between((ALL_SEEN,), one, other), "free")
        self.assertEqual(self.between((ALL_SEEN,), other, one), "yes")
        self.assertEqual(self.between((turned(ALL_SEE),), one, other), "no")
        self.assertEqual(self.between((turned(ALL_SEE), ALL_SEE), one, other), "both")
        self.assertEqual(self.between((ALL_SEE,), one, other, 1), "free")

    def test_by_premises_with_nouns_above(self):
        premises = (ALL_SEE, ("all", 2, 0))
        self.assertEqual(self.between(premises, ("one", 2), ("both", 1, 2)), "yes")
        self.assertEqual(self.between(premises, ("self", 2, False, 0), ("mark", 1, False, 0, True, 1)), "yes")
        self.assertEqual(self.between(premises, ("self", 2, False, 0), ("mark", 1, False, 0, True, 2)), "both")
        self.assertEqual(self.between(premises, ("one", 2), ("one", 2)), "free")

    def test_by_marks(self):
        inside = (("all", 2, 1),)
        self.assertEqual(self.between((), MARK, ("one", 1)), "yes")
        self.assertEqual(self.between((), turned(MARK), ("one", 1)), "no")
        self.assertEqual(self.between((), MARK, ("one", 1), 1), "free")
        self.assertEqual(self.between((), MARK, ("one", 0)), "free")
        self.assertEqual(self.between((), ("one", 1), MARK), "free")
        self.assertEqual(self.between((), MARK, ("one", 2)), "free")
        self.assertEqual(self.between(inside, MARK, ("one", 2)), "yes")
        self.assertEqual(self.between((), ("one", 1), MARK_BY), "yes")
        self.assertEqual(self.between((), ("one", 1), turned(MARK_BY)), "no")
        self.assertEqual(self.between((), MARK_BY, ("one", 1)), "free")
        self.assertEqual(self.between(inside, ("both", 0, 2), MARK_BY), "yes")
        self.assertEqual(self.between((), ("mark", 1, False, 0, False, 0), MARK_BY), "both")

    def test_some_forces_nothing(self):
        for q, p in (("all", "some"), ("some", "all"), ("some", "some")):
            premise = ("verb", q, 0, True, 0, False, p, 1)
            self.assertEqual(self.between((premise,), ("one", 0), ("one", 1)), "free")

    def test_to_itself(self):
        told = ("self", "all", 1, True, 0)
        self.assertEqual(forced_to_itself((2, 1), (told,), 0, ("one", 1)), "yes")
        self.assertEqual(forced_to_itself((2, 1), (told,), 0, ("one", 0)), "free")
        self.assertEqual(forced_to_itself((2, 1), (told, ("all", 0, 1)), 0, ("one", 0)), "yes")
        self.assertEqual(forced_to_itself((2, 1), (turned(told),), 0, ("both", 0, 1)), "no")
        self.assertEqual(forced_to_itself((2, 1), (turned(told), told), 0, ("one", 1)), "both")
        self.assertEqual(forced_to_itself((2, 1), (), 0, ("self", 0, True, 0)), "yes")
        self.assertEqual(forced_to_itself((2, 1), (), 0, ("self", 0, False, 0)), "no")
        self.assertEqual(forced_to_itself((2, 1), (ALL_SEE,), 0, ("both", 0, 1)), "yes")
        self.assertEqual(forced_to_itself((2, 2), (told,), 1, ("one", 1)), "free")
        self.assertEqual(forced_to_itself((2, 1), (("self", "some", 1, True, 0),), 0, ("one", 1)), "free")

    def test_what_is_forced_to_itself_is_not_forced_to_the_others(self):
        told = ("self", "all", 1, True, 0)
        self.assertEqual(forced_between((2, 1), (told,), 0, ("one", 1), ("one", 1)), "free")
        self.assertEqual(forced_between((2, 1), (), 0, ("self", 0, True, 0), ("self", 0, True, 0)), "free")

    def test_mixed_premises(self):
        stream = Stream(371)
        for signature in ((1, 1), (2, 1), (3, 2), (4, 1)):
            nouns, kinds, sentences = signature[0], kinds_of(signature), sentences_of(signature)
            for _ in range(120):
                premises = mixed_premises(sentences, stream)
                verb = stream.below(signature[1])
                first, second = kinds[stream.below(len(kinds))], kinds[stream.below(len(kinds))]
                word = word_of(*(forced(nouns, premises, does, verb, first, second) for does in (True, False)))
                self.assertEqual(forced_between(signature, premises, verb, first, second), word)
                word = word_of(*(forced_alone(nouns, premises, does, verb, first) for does in (True, False)))
                self.assertEqual(forced_to_itself(signature, premises, verb, first), word)

    def test_every_single_premise_between_all_kinds(self):
        kinds = kinds_of((2, 1))
        for premise in [one for one in sentences_of((2, 1)) if one[0] == "verb"]:
            premises = (premise, ("all", 0, 1))
            for first in kinds:
                for second in kinds:
                    word = word_of(*(forced(2, premises, does, 0, first, second) for does in (True, False)))
                    self.assertEqual(forced_between((2, 1), premises, 0, first, second), word)


class InEveryModel(unittest.TestCase):
    """Point 38."""

    def check(self, premises, models, kinds):
        over = {kind: nouns_above((2, 1), premises, kind) for kind in kinds}
        between = {(k, j): forced_between((2, 1), premises, 0, k, j) for k in kinds for j in kinds}
        alone = {kind: forced_to_itself((2, 1), premises, 0, kind) for kind in kinds}
        for model in models:
            if not all(truth(model, one) for one in premises):
                continue
            homes = homes_of(model)
            everyone = range(len(homes))
            of_kind = {
                kind: [
                    one for one in everyone
                    if is_of_kind(model, homes, one, kind) and all(has(model, homes, one, x) for x in over[kind])
                ] for kind in kinds
            }
            for first, second in between:
                pairs = [(one, other) for one in of_kind[first] for other in of_kind[second]]
                self.check_word(between[(first, second)], [acts(model, homes, 0, *pair) for pair in pairs])
            for kind in kinds:
                self.check_word(alone[kind], [acts(model, homes, 0, one, one) for one in of_kind[kind]])

    def check_word(self, word, deeds):
        if word in ("yes", "both"):
            self.assertNotIn(False, deeds)
        if word in ("no", "both"):
            self.assertNotIn(True, deeds)

    def test_it_is_so_for_all_individuals(self):
        stream, sentences = Stream(38), [one for one in sentences_of((2, 1)) if one[0] in ("all", "verb", "self")]
        models, kinds = small_models((2, 1), 2)[::2], kinds_of((2, 1))
        for _ in range(40):
            premises = mixed_premises(sentences, stream, 3)
            self.check(premises, models, kinds)


class OtherPremises(unittest.TestCase):
    def test_further_premises_take_nothing_away(self):
        stream, signature = Stream(401), (3, 1)
        sentences, kinds = sentences_of(signature), kinds_of(signature)
        for _ in range(120):
            premises = mixed_premises(sentences, stream, 7)
            further = premises + (sentences[stream.below(len(sentences))],)
            first, second = kinds[stream.below(len(kinds))], kinds[stream.below(len(kinds))]
            was = kinds_required(signature, premises)
            self.assertLessEqual(set(was), set(kinds_required(signature, further)))
            above_first = nouns_above(signature, premises, first)
            self.assertLessEqual(set(above_first), set(nouns_above(signature, further, first)))
            self.check_stays(
                forced_between(signature, premises, 0, first, second),
                forced_between(signature, further, 0, first, second))
            self.check_stays(
                forced_to_itself(signature, premises, 0, first), forced_to_itself(signature, further, 0, first))

    def check_stays(self, word, later):
        self.assertIn(later, {"free": ("free", "yes", "no", "both")}.get(word, (word, "both")))

    def test_exchanged_or_doubled(self):
        stream, signature = Stream(411), (3, 1)
        sentences = sentences_of(signature)
        for _ in range(120):
            premises = mixed_premises(sentences, stream, 7)
            kinds = set(kinds_required(signature, premises))
            for other in (premises[::-1], premises + premises[:1], premises[1:] + premises[:1]):
                self.assertEqual(set(kinds_required(signature, other)), kinds)

    def test_exchanged_kinds_come_in_another_sequence(self):
        both, alone = ("some", 0, 1), ("self", "some", 0, True, 0)
        singles = (("one", 0), ("one", 1))
        self.assertEqual(kinds_required((2, 1), (both, alone)), singles + (("both", 0, 1), ("self", 0, True, 0)))
        self.assertEqual(kinds_required((2, 1), (alone, both)), singles + (("self", 0, True, 0), ("both", 0, 1)))


class Refusals(unittest.TestCase):
    signature = ("signature", (2, 1), WRONG_SIGNATURES)
    premises = ("premises", (ALL_SEE,) * 8, wrong_premises((2, 1)))
    verb = ("verb", 0, WRONG_INTEGERS + (1, 2))
    wrong = wrong_kinds((2, 1))[:17] + wrong_kinds((2, 1))[17::6]

    def test_is_kind_checks_its_signature(self):
        check_refusals(self, is_kind, self.signature, ("value", ("one", 0), ()))
        check_refusals(self, is_kind, self.signature, ("value", None, ()))

    def test_nouns_above(self):
        check_refusals(self, nouns_above, self.signature, self.premises, ("kind", MARK, self.wrong))

    def test_kinds_required(self):
        check_refusals(self, kinds_required, self.signature, self.premises)

    def test_forced_between(self):
        check_refusals(
            self, forced_between, self.signature, self.premises, self.verb,
            ("first", MARK, self.wrong), ("second", ("both", 0, 1), self.wrong))

    def test_forced_to_itself(self):
        check_refusals(
            self, forced_to_itself, self.signature, self.premises, self.verb, ("kind", MARK, self.wrong))

    def test_no_verb_without_verbs(self):
        signature, premises = ("signature", (2, 0), ()), ("premises", (("all", 0, 1),), (("all", 0, 1), (ALL_SEE,)))
        check_refusals(self, kinds_required, signature, premises)
        for verb in (0, 1, None):
            with self.assertRaises(ValueError) as caught:
                forced_to_itself((2, 0), (), verb, ("one", 0))
            self.assertEqual(caught.exception.name, "verb")


class Example(unittest.TestCase):
    def test_of_point_43(self):
        premises = (
            ("all", 0, 1), ("verb", "all", 0, True, 0, False, "some", 1),
            ("verb", "all", 1, False, 0, False, "all", 1), ("as many", 0, 2), ("some", 2, 2))
        self.assertEqual(kinds_required((3, 1), premises), (("one", 0), ("one", 1), ("one", 2)))
        self.assertEqual(nouns_above((3, 1), premises, ("one", 0)), (0, 1))
        for kind in (("one", 0), ("one", 1)):
            self.assertEqual(forced_between((3, 1), premises, 0, ("one", 0), kind), "no")
        self.assertEqual(forced_between((3, 1), premises, 0, ("one", 0), ("one", 2)), "free")


if __name__ == "__main__":
    unittest.main()
