"""Points 67 to 77: verdicts on claims, their evidence and its judge, and consequences."""

import unittest

from allsomeno.canonical import canonical_model
from allsomeno.conflicts import can_hold
from allsomeno.proofs import first_wrong
from allsomeno.proving import told_proof
from allsomeno.sentences import negation, say_the_same, told_form
from allsomeno.verdicts import accepts_verdict, consequences, is_consequence, verdict, verdict_evidence

from tests.cases import NOBODY, mixed_cases, renamed_sentence, verb
from tests.checking import SIGNATURES, VALUES, WRONG_INTEGERS, WRONG_SIGNATURES, check_refusals
from tests.checking import sentences_of, with_item, wrong_premises, wrong_sentences
from tests.reference import Stream, is_model_of, mixed_premises, small_models, truth
from tests.second import canonical_of, conflicts_of, is_accepted, negation_of, told_proof_of

CHAIN = (("all", 0, 1), ("all", 1, 2))
WORDS = ("no model", "entailed", "refuted", "open")
TURNED = {"no model": "no model", "entailed": "refuted", "refuted": "entailed", "open": "open"}


def verdict_by(signature, premises, claim):
    """The verdict (point 67) by conflicts that are worked out a second time."""
    if conflicts_of(signature, premises):
        return "no model"
    if conflicts_of(signature, premises + (negation_of(claim),)):
        return "entailed"
    return "refuted" if conflicts_of(signature, premises + (claim,)) else "open"


class Verdicts(unittest.TestCase):
    def check(self, signature, premises, claim, word):
        self.assertEqual(verdict(signature, premises, claim), word, (premises, claim))
        self.assertEqual(verdict(signature, premises, negation(signature, claim)), TURNED[word])
        self.assertIs(is_consequence(signature, premises, claim), word in ("entailed", "no model"))

    def test_of_point_77(self):
        self.check((3, 0), CHAIN, ("all", 0, 2), "entailed")
        self.check((3, 0), CHAIN, ("as many", 2, 0), "entailed")
        self.check((3, 0), CHAIN[:1], ("some", 0, 1), "open")
        self.check((2, 0), (("no", 0, 0),), ("some", 0, 1), "refuted")

    def test_without_premises(self):
        for signature in SIGNATURES:
            for claim in sentences_of(signature):
                word = "open"
                if claim[0] in ("all", "as many") and claim[1] == claim[2]:
                    word = "entailed"
                if claim[0] in ("some not", "fewer") and claim[1] == claim[2]:
                    word = "refuted"
                self.check(signature, (), claim, word)

    def test_of_premises_without_a_model(self):
        for premises in ((("some not", 0, 0),), (("no", 0, 1), ("some", 1, 0)), (("fewer", 1, 1), ("all", 0, 1))):
            for claim in sentences_of((2, 1)):
                self.check((2, 1), premises, claim, "no model")

    def test_eight_premises_and_a_claim(self):
        eight = (("fewer", 0, 1), ("fewer", 1, 2), ("fewer", 2, 3), ("some", 0, 1), ("some", 1, 2), ("some", 2, 3),
                 ("some not", 3, 0), verb("all", 3, True, 0, False, "some", 3))
        self.check((4, 1), eight, ("fewer", 0, 3), "entailed")
        self.check((4, 1), eight, ("as many", 0, 3), "refuted")
        self.check((4, 1), eight, ("all", 0, 3), "open")
        self.check((4, 1), eight, eight[7], "entailed")
        self.check((4, 1), eight[:7] + (("all", 3, 0),), ("some", 0, 0), "no model")
        self.check((1, 0), (("no", 0, 0),) * 8, ("all", 0, 0), "entailed")

    def test_from_all_it_does_not_come_that_there_is_one(self):
        self.check((2, 0), (("all", 0, 1),), ("some", 0, 1), "open")
        self.check((2, 0), (("all", 0, 1),), ("some", 0, 0), "open")
        self.check((2, 0), (("all", 0, 1), ("some", 0, 0)), ("some", 0, 1), "entailed")
        sees = (verb("all", 0, True, 0, False, "all", 1),)
        self.check((2, 1), sees, verb("some", 0, True, 0, False, "some", 1), "open")
        self.check((2, 1), sees, verb("all", 0, True, 0, False, "some", 1), "open")

    def test_with_verbs(self):
        sees = (verb("some", 0, True, 0, False, "all", 1), ("all", 2, 1))
        self.check((3, 1), sees, verb("some", 0, True, 0, False, "all", 2), "entailed")
        self.check((3, 1), sees, verb("all", 2, True, 0, True, "some", 0), "entailed")
        self.check((3, 1), sees, verb("all", 0, True, 0, False, "some", 2), "open")
        self.check((3, 1), sees, verb("all", 0, False, 0, False, "some", 2), "refuted")
        self.check((3, 1), sees, verb("all", 2, False, 0, True, "some", 0), "open")
        self.check((3, 1), sees, verb("some", 2, False, 0, True, "all", 0), "refuted")
        every = (verb("all", 0, True, 0, False, "all", 0),)
        self.check((1, 1), every, ("self", "all", 0, True, 0), "entailed")
        self.check((1, 1), every, ("self", "some", 0, False, 0), "refuted")
        self.check((1, 1), (("self", "all", 0, True, 0),), every[0], "open")
        self.check((1, 1), (("self", "all", 0, True, 0),), verb("all", 0, True, 0, False, "some", 0), "entailed")

    def test_mixed_cases(self):
        met = {word: 0 for word in WORDS}
        for signature, premises, claim in mixed_cases(67, SIGNATURES, 50):
            word = verdict_by(signature, premises, claim)
            met[word] += 1
            self.check(signature, premises, claim, word)
        self.assertGreater(min(met.values()), 20)

    def test_small_models_agree(self):
        stream = Stream(671)
        for signature in ((1, 0), (2, 0), (1, 1), (2, 1)):
            models, sentences = small_models(signature, 2), sentences_of(signature)
            for _ in range(40):
                premises, claim = mixed_premises(sentences, stream, 3), sentences[stream.below(len(sentences))]
                word = verdict(signature, premises, claim)
                found = {truth(model, claim) for model in models if is_model_of(model, premises)}
                allowed = {"no model": set(), "entailed": {True}, "refuted": {False}, "open": {True, False}}[word]
                self.assertLessEqual(found, allowed, (premises, claim))

    def test_one_sentence_by_another_one(self):
        models, sentences = small_models((1, 1), 2), sentences_of((1, 1))
        held = {one: [truth(model, one) for model in models] for one in sentences}
        for one in sentences:
            for claim in sentences:
                found = {b for a, b in zip(held[one], held[claim]) if a}
                words = {(): "no model", (True,): "entailed", (False,): "refuted", (False, True): "open"}
                # About one noun and one verb, models of two individuals tell all that two sentences can say.
                self.assertEqual(verdict((1, 1), (one,), claim), words[tuple(sorted(found))], (one, claim))


class ToldEvidence(unittest.TestCase):
    def test_of_each_word(self):
        told = verdict_evidence((3, 0), CHAIN, ("all", 0, 2))
        against, so = CHAIN + (("some not", 0, 2),), CHAIN + (("all", 0, 2),)
        self.assertEqual(told, ("entailed", told_proof((3, 0), against), canonical_model((3, 0), so)))
        told = verdict_evidence((3, 0), CHAIN, ("some not", 0, 2))
        self.assertEqual(told, ("refuted", told_proof((3, 0), against), canonical_model((3, 0), so)))
        told = verdict_evidence((3, 0), CHAIN, ("some", 0, 1))
        some, none = CHAIN + (("some", 0, 1),), CHAIN + (("no", 0, 1),)
        self.assertEqual(told, ("open", canonical_model((3, 0), some), canonical_model((3, 0), none)))
        told = verdict_evidence((3, 0), some + none, ("some", 0, 1))
        self.assertEqual(told, ("no model", told_proof((3, 0), some + none)))

    def test_mixed_cases(self):
        for signature, premises, claim in mixed_cases(70, SIGNATURES, 30):
            word = verdict_by(signature, premises, claim)
            so, not_so = premises + (claim,), premises + (negation_of(claim),)
            if word == "no model":
                expected = (word, told_proof_of(signature, premises))
            elif word == "open":
                expected = (word, canonical_of(signature, so), canonical_of(signature, not_so))
            else:
                right, wrong = (so, not_so) if word == "entailed" else (not_so, so)
                expected = (word, told_proof_of(signature, wrong), canonical_of(signature, right))
            self.assertEqual(verdict_evidence(signature, premises, claim), expected)

    def test_accepted_and_of_exactly_one_word(self):
        for signature, premises, claim in mixed_cases(69, SIGNATURES, 40):
            told = verdict_evidence(signature, premises, claim)
            self.assertEqual(told[0], verdict(signature, premises, claim))
            for word in WORDS + ("Open", "", None, 0, True, (), ["open"]):
                self.assertIs(accepts_verdict(signature, premises, claim, (word,) + told[1:]), word == told[0])
            self.assertIs(
                accepts_verdict(signature, premises, negation(signature, claim), told),
                told[0] == "no model")

    def test_eight_premises_and_a_claim(self):
        met = set()
        for signature, premises, claim in mixed_cases(691, SIGNATURES, 60):
            if len(premises) == 8:
                told = verdict_evidence(signature, premises, claim)
                met.add(told[0])
                self.assertIs(accepts_verdict(signature, premises, claim, told), True)
        self.assertEqual(met, set(WORDS))


class Judge(unittest.TestCase):
    """Point 69."""

    def check(self, signature, premises, claim, value, right):
        self.assertIs(accepts_verdict(signature, premises, claim, value), right, (premises, claim, value))

    def test_of_the_interface(self):
        one, nobody = (((1, (0, 1)),), (), ()), NOBODY
        self.check((2, 0), (("all", 0, 1),), ("some", 0, 1), ("open", one, nobody), True)
        self.check((2, 0), (("all", 0, 1),), ("some", 0, 1), ("open", nobody, one), False)
        self.check((2, 0), (("all", 0, 1),), ("some", 0, 1), ("open", one, one), False)
        self.check((2, 0), (("all", 0, 1),), ("some", 0, 1), ("open", nobody, nobody), False)
        self.check((2, 0), (("all", 0, 1),), ("no", 0, 1), ("open", nobody, one), True)
        # The first model is no model of the premises.
        self.check((2, 0), (("all", 0, 1),), ("some", 0, 0), ("open", (((1, (0,)),), (), ()), nobody), False)
        self.check((2, 0), (("some", 1, 1),), ("some", 0, 1), ("open", one, nobody), False)

    def test_proofs_and_models_exchanged(self):
        claim = ("all", 0, 2)
        proof = (("all", 0, 1), ("all", 1, 2), ("all", 0, 2), ("clash",))
        self.check((3, 0), CHAIN, claim, ("entailed", proof, NOBODY), True)
        self.check((3, 0), CHAIN, claim, ("entailed", NOBODY, proof), False)
        self.check((3, 0), CHAIN, claim, ("entailed", NOBODY, NOBODY), False)
        self.check((3, 0), CHAIN, claim, ("entailed", proof, proof), False)
        self.check((3, 0), CHAIN, claim, ("refuted", proof, NOBODY), False)
        self.check((3, 0), CHAIN, claim, ("open", proof, NOBODY), False)
        self.check((3, 0), CHAIN, claim, ("no model", proof), False)
        self.check((3, 0), CHAIN, ("some not", 0, 2), ("refuted", proof, NOBODY), True)
        self.check((3, 0), CHAIN, ("some not", 0, 2), ("entailed", proof, NOBODY), False)

    def test_any_model_of_the_premises_does(self):
        proof = (("all", 0, 1), ("all", 1, 2), ("all", 0, 2), ("clash",))
        one = (((1, (0, 1, 2)), (7, (2,))), (), ())
        self.check((3, 0), CHAIN, ("all", 0, 2), ("entailed", proof, one), True)
        other = (((1, (0, 2)),), (), ())
        self.check((3, 0), CHAIN, ("all", 0, 2), ("entailed", proof, other), False)

    def test_any_accepted_proof_does(self):
        claim = ("all", 0, 2)
        proof = (("all", 3, 3), ("all", 1, 2), ("all", 0, 1), ("all", 0, 2), ("all", 0, 2), ("clash",), ("clash",))
        self.check((4, 0), CHAIN, claim, ("entailed", proof, NOBODY), True)
        self.check((4, 0), CHAIN, claim, ("entailed", (("all", 0, 0),) * 114 + proof[1:], NOBODY), True)
        self.check((4, 0), CHAIN, claim, ("entailed", (("all", 0, 0),) * 115 + proof[1:], NOBODY), False)
        for at in (1, 2):
            self.check((4, 0), CHAIN, claim, ("entailed", proof[:at] + proof[at + 1:], NOBODY), False)
        self.check((4, 0), CHAIN, claim, ("entailed", proof[:-2], NOBODY), False)
        self.check((4, 0), CHAIN, claim, ("entailed", (), NOBODY), False)

    def test_no_model(self):
        premises = (("no", 0, 0), ("some", 0, 0))
        proof = (("one", 0), ("clash",))
        for claim in sentences_of((1, 0)):
            self.check((1, 0), premises, claim, ("no model", proof), True)
            for value in (
                ("no model", proof, NOBODY), ("no model", proof[1:]), ("no model",), ["no model", proof],
                ("no model", list(proof)), ("no model", proof, proof), ("entailed", proof, NOBODY),
                ("refuted", proof, NOBODY), ("open", NOBODY, NOBODY), ("entailed", proof), (proof,), proof,
                ("no model", NOBODY),
            ):
                self.check((1, 0), premises, claim, value, False)

    def test_the_proof_is_of_premises_and_claim(self):
        # The premises alone have this proof, so it is one of no other word either.
        premises = (("some not", 0, 0),)
        proof = (("all", 0, 0), ("clash",))
        self.check((1, 0), (), ("all", 0, 0), ("entailed", proof, NOBODY), True)
        self.check((1, 0), (), ("some not", 0, 0), ("refuted", proof, NOBODY), True)
        self.check((1, 0), premises, ("all", 0, 0), ("entailed", proof, NOBODY), False)
        self.check((1, 0), (), ("all", 0, 0), ("no model", proof), False)

    def test_values_of_every_kind(self):
        for signature in ((1, 0), (2, 0), (2, 1)):
            for value in VALUES:
                for claim in (("all", 0, 0), ("some", 0, 0), ("fewer", 0, 0)):
                    self.check(signature, (), claim, value, False)
                    self.check(signature, (("fewer", 0, 0),), claim, value, False)

    def test_values_near_to_right_ones(self):
        for signature, premises, claim in mixed_cases(692, ((2, 1), (3, 0)), 40, 4):
            told = verdict_evidence(signature, premises, claim)
            for value in (list(told), told[:-1], told + (NOBODY,), told + (None,), told[1:], (told,), told[::-1]):
                self.check(signature, premises, claim, value, False)
            for at in range(1, len(told)):
                item = told[at]
                for wrong in (None, True, 0, "", list(item), item + ((),), item[1:], (item,), item[:-1]):
                    self.check(signature, premises, claim, with_item(told, at, wrong), False)

    def test_a_line_left_out(self):
        for signature, premises, claim in mixed_cases(693, ((2, 1), (4, 0)), 60, 5):
            told = verdict_evidence(signature, premises, claim)
            if told[0] != "open":
                for at in range(len(told[1])):
                    value = with_item(told, 1, told[1][:at] + told[1][at + 1:])
                    self.check(signature, premises, claim, value, False)

    def test_true_and_false_for_integers(self):
        proof = (("all", 0, 0), ("clash",))
        self.check((1, 0), (), ("all", 0, 0), ("entailed", (("all", False, 0), ("clash",)), NOBODY), False)
        self.check((1, 0), (), ("all", 0, 0), ("entailed", proof, (((True, (0,)),), (), ())), False)
        self.check((1, 0), (), ("all", 0, 0), ("entailed", proof, (((1, (False,)),), (), ())), False)
        self.check((1, 0), (), ("all", 0, 0), ("entailed", proof, (((1, (0,)),), (), ())), True)


class Consequences(unittest.TestCase):
    def by_all(self, signature, premises, index, many):
        """Those that are told by going through all sentences."""
        found = [one for one in sentences_of(signature)[index:] if verdict_by(signature, premises, one) != "open"]
        return [one for one in found if verdict_by(signature, premises, one) != "refuted"][:many]

    def test_of_no_premises(self):
        self.assertEqual(consequences((1, 0), (), 0, 2), [("all", 0, 0), ("as many", 0, 0)])
        self.assertEqual(consequences((1, 0), (), 0, 20), [("all", 0, 0), ("as many", 0, 0)])
        self.assertEqual(consequences((1, 0), (), 0, 1), [("all", 0, 0)])
        self.assertEqual(consequences((1, 0), (), 1, 1), [("as many", 0, 0)])
        self.assertEqual(consequences((1, 0), (), 5, 20), [])
        self.assertEqual(consequences((4, 2), (), 639, 20), [])

    def test_of_premises_without_a_model(self):
        sentences = sentences_of((4, 2))
        for index in (0, 5, 600, 620, 638, 639):
            for many in (0, 1, 19, 20):
                told = consequences((4, 2), (("fewer", 1, 1),), index, many)
                self.assertEqual(told, sentences[index:index + many])
        self.assertEqual(consequences((4, 2), (("fewer", 1, 1),), 639, 20), [("self", "some", 3, False, 1)])

    def test_of_a_chain(self):
        told = [("all", 0, 0), ("all", 0, 1), ("all", 0, 2), ("all", 1, 1), ("all", 1, 2), ("all", 2, 2)]
        counted = [("as many", 0, 0), ("as many", 1, 0), ("as many", 1, 1)]
        counted += [("as many", 2, 0), ("as many", 2, 1), ("as many", 2, 2)]
        self.assertEqual(consequences((3, 0), CHAIN, 0, 20), told + counted)
        self.assertEqual(consequences((3, 0), CHAIN, 2, 4), told[2:])
        self.assertEqual(consequences((3, 0), CHAIN, 3, 3), told[3:])

    def test_many_is_none_or_one(self):
        for many in (0, 1):
            self.assertEqual(consequences((3, 0), CHAIN, 0, many), [("all", 0, 0)][:many])

    def test_mixed_cases(self):
        stream = Stream(71)
        for signature in ((1, 0), (2, 0), (1, 2), (2, 1), (3, 0)):
            sentences = sentences_of(signature)
            for _ in range(8):
                premises = mixed_premises(sentences, stream)
                index, many = stream.below(len(sentences)), stream.below(21)
                for start in (0, index, len(sentences) - 1):
                    told = consequences(signature, premises, start, many)
                    self.assertIsInstance(told, list)
                    self.assertEqual(told, self.by_all(signature, premises, start, many))

    def test_a_list_of_ones_own(self):
        first = consequences((3, 0), CHAIN, 0, 20)
        first.append(None)
        self.assertEqual(len(consequences((3, 0), CHAIN, 0, 20)), 12)

    def test_each_premise_is_one(self):
        for signature, premises, _ in mixed_cases(72, SIGNATURES, 25):
            for premise in premises:
                self.assertIs(is_consequence(signature, premises, premise), True)

    def test_what_is_one_stays_one(self):
        stream = Stream(721)
        for signature, premises, claim in mixed_cases(722, SIGNATURES, 40, 6):
            if is_consequence(signature, premises, claim):
                sentences = sentences_of(signature)
                for _ in range(4):
                    further = sentences[stream.below(len(sentences))]
                    self.assertIs(is_consequence(signature, premises + (further,), claim), True)
                    self.assertIs(is_consequence(signature, (further,) + premises, claim), True)

    def test_with_one_behind_the_premises_the_verdicts_stay(self):
        stream = Stream(723)
        for signature, premises, claim in mixed_cases(724, SIGNATURES, 40, 7):
            if is_consequence(signature, premises, claim):
                sentences = sentences_of(signature)
                for _ in range(6):
                    other = sentences[stream.below(len(sentences))]
                    told = verdict(signature, premises, other)
                    self.assertEqual(verdict(signature, premises + (claim,), other), told)


class TheSameModels(unittest.TestCase):
    """Points 73 and 74."""

    def test_claims_that_say_the_same(self):
        for signature, premises, claim in mixed_cases(73, SIGNATURES, 30):
            word = verdict(signature, premises, claim)
            self.assertEqual(verdict(signature, premises, told_form(signature, claim)), word)
        for signature, premises, claim in mixed_cases(731, ((2, 1),), 20):
            for other in sentences_of(signature):
                if say_the_same(signature, claim, other):
                    self.assertEqual(
                        verdict(signature, premises, other), verdict(signature, premises, claim))

    def test_premises_that_the_same_models_satisfy(self):
        for signature, premises, claim in mixed_cases(732, SIGNATURES, 30, 7):
            word = verdict(signature, premises, claim)
            told = tuple(told_form(signature, one) for one in premises)
            for other in (told, premises[::-1], premises + premises[:1], premises + (("all", 0, 0),)):
                self.assertEqual(verdict(signature, other, claim), word)

    def test_nouns_or_verbs_exchanged(self):
        for signature, premises, claim in mixed_cases(74, ((2, 2), (3, 2), (4, 1)), 60):
            word = verdict(signature, premises, claim)
            for nouns, verbs in (((1, 0, 2, 3), (0, 1)), ((0, 1, 2, 3), (1, 0))):
                if signature[1] == 2 or verbs == (0, 1):
                    other = tuple(renamed_sentence(one, nouns, verbs) for one in premises)
                    self.assertEqual(verdict(signature, other, renamed_sentence(claim, nouns, verbs)), word)


class Refusals(unittest.TestCase):
    signature = ("signature", (2, 1), WRONG_SIGNATURES)
    premises = ("premises", (("all", 0, 1),) * 8, wrong_premises((2, 1)))
    wrong = wrong_sentences((2, 1))
    claim = ("claim", ("some", 0, 1), wrong[:11] + wrong[11::29])

    def test_of_a_claim(self):
        for function in (verdict, verdict_evidence, is_consequence):
            check_refusals(self, function, self.signature, self.premises, self.claim)

    def test_of_the_judge(self):
        for value in (None, ("open", NOBODY, NOBODY)):
            check_refusals(self, accepts_verdict, self.signature, self.premises, self.claim, ("value", value, ()))

    def test_of_consequences(self):
        check_refusals(
            self, consequences, self.signature, self.premises, ("index", 95, WRONG_INTEGERS + (96, 640)),
            ("many", 20, WRONG_INTEGERS + (21, 100)))
        check_refusals(
            self, consequences, ("signature", (1, 0), ()), ("premises", (), ()), ("index", 0, (6,)),
            ("many", 0, (-1, 21)))


class Accepted(unittest.TestCase):
    def test_by_a_second_judge(self):
        for signature, premises, claim in mixed_cases(694, SIGNATURES, 20):
            told = verdict_evidence(signature, premises, claim)
            so, not_so = premises + (claim,), premises + (negation_of(claim),)
            if told[0] == "open":
                self.assertTrue(is_model_of(told[1], so) and is_model_of(told[2], not_so))
                continue
            wrong = {"no model": premises, "entailed": not_so, "refuted": so}[told[0]]
            self.assertIs(is_accepted(signature, wrong, told[1]), True)
            if len(wrong) <= 8:
                self.assertIsNone(first_wrong(signature, wrong, told[1]))
            if told[0] == "no model":
                self.assertIs(can_hold(signature, premises), False)
            else:
                self.assertIs(is_model_of(told[2], premises), True)


if __name__ == "__main__":
    unittest.main()
