"""Points 55 to 59 and 62 to 66: facts, when a fact follows from lines, and the judge of proofs."""

import unittest

from allsomeno.conflicts import can_hold
from allsomeno.proofs import first_wrong, follows, is_fact
from allsomeno.proving import told_proof

from tests.cases import TRUTHS, renamed_sentence, verb
from tests.checking import SIGNATURES, VALUES, WRONG_SIGNATURES, check_refusals, sentences_of
from tests.checking import wrong_premises, wrong_versions
from tests.reference import Stream, above, has, homes_of, is_model_of, is_of_kind, kinds_of
from tests.reference import mixed_premises, small_models, stated, truth
from tests.second import all_that_comes, facts_of, is_step

CLASH = ("clash",)
ALL_0 = ("all", 0, 0)


def all_facts(signature):
    return facts_of(signature, kinds_of(signature))


def wrong_facts(signature):
    """Values that are no facts of the signature."""
    found = [
        None, True, 0, "clash", (), [], ["clash"], ("clash", 0), ("clash", "clash"), ("all", 0), ("as many", 0),
        ("fewer", 0, 0), ("some", 0, 0), ("some not", 0, 0), ("no", 0, 0), ("all", 0, 0, 0), ("both", 1, 0),
        ("both", 0, 0), ("all", signature[0], 0), ("as many", 0, signature[0]), ("one", signature[0]),
        ("self", 0, True, signature[1]), ("mark", 0, True, signature[1], False, 0), (CLASH,),
    ]
    for fact in all_facts(signature):
        found.extend(wrong_versions(signature, fact))
    return found


def mixed_lines(facts, stream, many):
    """Up to so many facts, those about two nouns as often as the kinds."""
    short = [fact for fact in facts if len(fact) == 3 and fact[0] != "both"]
    found = []
    for _ in range(stream.below(many + 1)):
        chosen = short if stream.below(2) else facts
        found.append(chosen[stream.below(len(chosen))])
    return tuple(found)


class IsFact(unittest.TestCase):
    def test_right_ones(self):
        for signature in SIGNATURES:
            for fact in all_facts(signature):
                self.assertIs(is_fact(signature, fact), True, fact)

    def test_wrong_ones(self):
        for signature in ((1, 0), (2, 1), (4, 2)):
            for wrong in wrong_facts(signature):
                self.assertIs(is_fact(signature, wrong), False, wrong)

    def test_values_of_every_kind(self):
        for value in VALUES:
            right = isinstance(value, tuple) and value in (("clash",), ("all", 0, 0))
            self.assertIs(is_fact((1, 0), value), right, value)

    def test_facts_of_larger_signatures(self):
        for signature in ((1, 0), (2, 2), (3, 0), (3, 1)):
            own = all_facts(signature)
            for fact in all_facts((3, 2)):
                self.assertIs(is_fact(signature, fact), fact in own)

    def test_sentences_that_are_facts(self):
        for sentence in sentences_of((2, 1)):
            self.assertIs(is_fact((2, 1), sentence), sentence[0] in ("all", "as many"))


class PairSteps(unittest.TestCase):
    def check(self, premises, lines, fact, right=True, signature=(4, 2)):
        self.assertIs(follows(signature, premises, lines, fact), right, (premises, lines, fact))

    def test_all(self):
        self.check((), (), ("all", 2, 2))
        self.check((), (), ("all", 0, 1), False)
        self.check((("all", 0, 1),), (), ("all", 0, 1))
        self.check((("all", 0, 1),), (), ("all", 1, 0), False)
        self.check((), (("all", 0, 1),), ("all", 0, 1), False)
        self.check((), (("all", 0, 1), ALL_0), ("all", 0, 1))
        self.check((("no", 0, 1), ("as many", 0, 1)), (), ("all", 0, 1), False)

    def test_all_over_a_third_noun(self):
        lines = (("all", 2, 1), ("all", 0, 2))
        self.check((), lines, ("all", 0, 1))
        self.check((), lines, ("all", 1, 0), False)
        self.check((), lines[:1], ("all", 0, 1), False)
        # A premise is no line.
        self.check(lines, (), ("all", 0, 1), False)
        self.check(lines, lines[:1], ("all", 0, 1), False)
        self.check((), (("all", 0, 2), ("as many", 2, 1)), ("all", 0, 1), False)
        self.check((), (("all", 0, 2), ("all", 2, 3), ("all", 3, 1)), ("all", 0, 1), False)

    def test_all_as_there_are_as_many(self):
        lines = (("all", 1, 0), ("as many", 1, 0))
        self.check((), lines, ("all", 0, 1))
        self.check((), lines[:1], ("all", 0, 1), False)
        self.check((), lines[1:], ("all", 0, 1), False)
        self.check((), (("all", 1, 0), ("as many", 0, 1)), ("all", 0, 1), False)
        self.check(lines, lines[:1], ("all", 0, 1), False)

    def test_as_many(self):
        self.check((), (), ("as many", 2, 2), False)
        self.check((), (("all", 2, 2),), ("as many", 2, 2))
        self.check((("as many", 0, 1),), (), ("as many", 0, 1))
        self.check((("as many", 0, 1),), (), ("as many", 1, 0), False)
        self.check((("fewer", 1, 0),), (), ("as many", 0, 1))
        self.check((("fewer", 0, 1),), (), ("as many", 0, 1), False)
        self.check((), (("all", 1, 0),), ("as many", 0, 1))
        self.check((), (("all", 0, 1),), ("as many", 0, 1), False)
        self.check((("all", 1, 0),), (), ("as many", 0, 1), False)

    def test_as_many_over_a_third_noun(self):
        lines = (("as many", 0, 2), ("as many", 2, 1))
        self.check((), lines, ("as many", 0, 1))
        self.check((), lines, ("as many", 1, 0), False)
        self.check(lines, lines[:1], ("as many", 0, 1), False)
        self.check((), (("as many", 0, 2), ("all", 2, 1)), ("as many", 0, 1), False)


class KindSteps(unittest.TestCase):
    check = PairSteps.check

    def test_what_a_premise_states(self):
        for premise in sentences_of((2, 1)):
            for kind in kinds_of((2, 1)):
                self.check((premise,), (), kind, kind in stated((premise,)), (2, 1))
                self.check((("all", 0, 1), premise), (), kind, kind in stated((premise,)), (2, 1))

    def test_other_kinds_than_one_are_only_stated(self):
        for kind in [kind for kind in kinds_of((2, 1)) if kind[0] != "one"]:
            self.check((), (kind,), kind, False, (2, 1))
        self.check((("all", 0, 1),), (("one", 0), ("all", 0, 1)), ("both", 0, 1), False)

    def test_one_of_a_kind(self):
        for kind in kinds_of((3, 1)):
            own = kind[1:3] if kind[0] == "both" else kind[1:2]
            for x in range(3):
                self.check((), (kind,), ("one", x), x in own, (3, 1))
                self.check((), (kind, ("all", 1, 2)), ("one", x), x in own or (x == 2 and 1 in own), (3, 1))
        self.check((("some", 0, 1),), (), ("one", 0), False)

    def test_one_above_only_by_one_line(self):
        self.check((), (("one", 0), ("all", 0, 1), ("all", 1, 2)), ("one", 2), False)
        self.check((), (("one", 0), ("all", 0, 1), ("all", 0, 2)), ("one", 2))
        self.check((("all", 0, 1),), (("one", 0),), ("one", 1), False)

    def test_one_as_there_are_as_many(self):
        self.check((), (("one", 0), ("as many", 1, 0)), ("one", 1))
        self.check((), (("one", 0), ("as many", 0, 1)), ("one", 1), False)
        self.check((("as many", 1, 0),), (("one", 0),), ("one", 1), False)
        self.check((), (("one", 0), ("as many", 1, 2), ("all", 0, 2)), ("one", 1))
        self.check((), (("one", 0), ("as many", 1, 2), ("as many", 2, 0)), ("one", 1), False)
        self.check((), (("as many", 1, 0),), ("one", 1), False)

    def test_one_by_a_premise_with_a_verb(self):
        for does in TRUTHS:
            for by in TRUTHS:
                told = (verb("all", 2, does, 1, by, "some", 1),)
                self.check(told, (("one", 2),), ("one", 1))
                self.check(told, (("self", 2, True, 0),), ("one", 1))
                self.check(told, (("one", 0), ("all", 0, 2)), ("one", 1))
                self.check(told, (("one", 0),), ("one", 1), False)
                self.check(told, (("one", 1),), ("one", 2), False)
                self.check(told, (), ("one", 1), False)
                self.check((verb("all", 2, does, 1, by, "all", 1),), (("one", 2),), ("one", 1), False)

    def test_a_clash_and_pairs_say_nothing_of_kinds(self):
        self.check((("some not", 0, 0),), (ALL_0, CLASH), ("one", 1), False)


class ClashSteps(unittest.TestCase):
    check = PairSteps.check

    def test_no(self):
        told = (("no", 0, 1),)
        self.check(told, (("both", 0, 1),), CLASH)
        self.check(told, (("one", 0), ("all", 0, 1)), CLASH)
        self.check(told, (("one", 2), ("all", 2, 1), ("all", 2, 0)), CLASH)
        self.check(told, (("self", 2, True, 1), ("all", 2, 1), ("all", 2, 0)), CLASH)
        self.check(told, (("one", 2), ("all", 2, 1), ("all", 1, 0)), CLASH, False)
        self.check(told, (("one", 0), ("one", 1)), CLASH, False)
        self.check(told + (("some", 0, 1), ("all", 0, 1)), (), CLASH, False)
        self.check((("no", 1, 1),), (("one", 1),), CLASH)
        self.check((("no", 1, 1),), (("both", 1, 2),), CLASH)

    def test_some_not(self):
        told = (("some not", 0, 1), ("all", 0, 1))
        self.check(told, (("all", 0, 1),), CLASH)
        self.check(told, (), CLASH, False)
        self.check(told, (("all", 1, 0),), CLASH, False)
        # For x and y the same, too, there must be a line.
        self.check((("some not", 0, 0),), (), CLASH, False)
        self.check((("some not", 0, 0),), (ALL_0,), CLASH)
        self.check((("some not", 0, 0),), (("all", 1, 1), ("one", 0)), CLASH, False)

    def test_fewer(self):
        told = (("fewer", 0, 1), ("as many", 0, 1))
        self.check(told, (("as many", 0, 1),), CLASH)
        self.check(told, (), CLASH, False)
        self.check(told, (("as many", 1, 0), ("all", 1, 0)), CLASH, False)
        self.check((("fewer", 0, 0),), (), CLASH, False)
        self.check((("fewer", 0, 0),), (ALL_0,), CLASH, False)
        self.check((("fewer", 0, 0),), (("as many", 0, 0),), CLASH)

    def test_all_with_some(self):
        for does in TRUTHS:
            for by in TRUTHS:
                told = (verb("all", 0, does, 0, by, "some", 1), verb("all", 0, not does, 0, by, "all", 1))
                self.check(told, (("one", 0),), CLASH)
                self.check(told, (("both", 0, 2),), CLASH)
                self.check(told, (("one", 1),), CLASH, False)
                self.check(told, (), CLASH, False)
                self.check(told, (("one", 3), ("all", 3, 0)), CLASH)
                self.check(told, (("one", 3), ("all", 3, 2), ("all", 2, 0)), CLASH, False)
                contrary = (verb("all", 2, not does, 0, by, "all", 3),)
                lines = (("one", 0), ("all", 0, 2), ("all", 1, 3))
                self.check(told[:1] + contrary, lines, CLASH)
                for at in range(3):
                    self.check(told[:1] + contrary, lines[:at] + lines[at + 1:], CLASH, False)
                mark = ("mark", 0, not does, 0, by, 1)
                self.check(told[:1], (mark,), CLASH)
                self.check(told[:1], (("mark", 0, not does, 0, not by, 1),), CLASH, False)
                self.check(told[:1], (("mark", 0, does, 0, by, 1),), CLASH, False)

    def test_some_with_some(self):
        for does in TRUTHS:
            for by in TRUTHS:
                told = (verb("some", 0, does, 0, by, "some", 1), verb("all", 0, not does, 0, by, "all", 1))
                # Neither of the two kinds must be a line.
                self.check(told, (), CLASH)
                self.check(told[::-1], (), CLASH)
                self.check(told[:1], (), CLASH, False)
                contrary = (verb("all", 2, not does, 0, by, "all", 3),)
                lines = (("all", 0, 2), ("all", 1, 3))
                self.check(told[:1] + contrary, lines, CLASH)
                self.check(told[:1] + contrary, lines[:1], CLASH, False)
                self.check(told[:1] + contrary, lines[1:], CLASH, False)

    def test_pairs(self):
        for does in TRUTHS:
            for by in TRUTHS:
                told = (verb("all", 0, does, 1, by, "all", 1), verb("all", 0, not does, 1, by, "all", 1))
                self.check(told, (("one", 0), ("one", 1)), CLASH)
                self.check(told, (("both", 0, 1),), CLASH)
                self.check(told, (("one", 0),), CLASH, False)
                self.check(told, (("one", 1),), CLASH, False)
                self.check(told[:1], (("one", 0), ("one", 1)), CLASH, False)
                itself = tuple(one[:7] + (0,) for one in told)
                self.check(itself, (("one", 0),), CLASH)
                self.check(itself, (("one", 2), ("all", 2, 0)), CLASH)
                self.check((), (("mark", 0, does, 0, False, 1), ("mark", 1, not does, 0, True, 0)), CLASH)
                self.check((), (("mark", 0, does, 0, False, 1), ("mark", 1, does, 0, True, 0)), CLASH, False)

    def test_alone(self):
        for does in TRUTHS:
            told = (("self", "all", 0, does, 0),)
            self.check(told, (("self", 0, not does, 0),), CLASH)
            self.check(told, (("self", 1, not does, 0), ("all", 1, 0)), CLASH)
            self.check(told, (("self", 1, not does, 0),), CLASH, False)
            self.check(told, (("self", 0, not does, 1),), CLASH, False)
            self.check(told, (("self", 0, does, 0),), CLASH, False)
            self.check((), (("self", 0, not does, 0), ("self", 0, does, 0)), CLASH, False)
            both = told + (("self", "all", 1, not does, 0),)
            self.check(both, (("both", 0, 1),), CLASH)
            self.check(both, (("one", 0), ("all", 0, 1)), CLASH)
            self.check(both, (("one", 0), ("one", 1)), CLASH, False)

    def test_nothing_comes_from_nothing(self):
        for signature in SIGNATURES:
            self.check((), (), CLASH, False, signature)
            self.check((), (CLASH,), CLASH, False, signature)


class MixedSteps(unittest.TestCase):
    def test_single_steps(self):
        stream = Stream(56)
        for signature in SIGNATURES:
            sentences, facts = sentences_of(signature), all_facts(signature)
            for _ in range(60):
                premises, lines = mixed_premises(sentences, stream), mixed_lines(facts, stream, 9)
                fact = facts[stream.below(len(facts))]
                for told in (fact, CLASH, ("one", stream.below(signature[0]))):
                    self.assertIs(
                        follows(signature, premises, lines, told), is_step(signature, premises, lines, told))

    def test_all_facts_from_some_lines(self):
        stream = Stream(57)
        facts = all_facts((3, 1))
        for _ in range(60):
            premises, lines = mixed_premises(sentences_of((3, 1)), stream), mixed_lines(facts, stream, 6)
            for fact in facts:
                self.assertIs(follows((3, 1), premises, lines, fact), is_step((3, 1), premises, lines, fact))

    def test_doubled_lines_and_lines_in_another_sequence(self):
        stream = Stream(58)
        facts = all_facts((2, 1))
        for _ in range(80):
            premises, lines = mixed_premises(sentences_of((2, 1)), stream), mixed_lines(facts, stream, 6)
            for fact in facts:
                right = follows((2, 1), premises, lines, fact)
                self.assertIs(follows((2, 1), premises, lines + lines, fact), right)
                self.assertIs(follows((2, 1), premises, lines[::-1], fact), right)


class Soundness(unittest.TestCase):
    """Point 59: what follows holds in the models of the premises and of the lines."""

    def holds(self, model, premises, fact):
        if fact == CLASH:
            return False
        if fact[0] in ("all", "as many"):
            return truth(model, fact)
        homes = homes_of(model)
        everyone = range(len(homes))
        return any(is_of_kind(model, homes, one, fact) for one in everyone)

    def test_in_small_models(self):
        stream = Stream(59)
        for signature in ((1, 1), (2, 0), (2, 1)):
            models, facts, sentences = small_models(signature, 2), all_facts(signature), sentences_of(signature)
            for _ in range(25):
                premises, lines = mixed_premises(sentences, stream, 3), mixed_lines(facts, stream, 3)
                new = [fact for fact in facts if follows(signature, premises, lines, fact)]
                for model in models:
                    if is_model_of(model, premises) and all(self.holds(model, premises, line) for line in lines):
                        for fact in new:
                            self.assertTrue(self.holds(model, premises, fact), (premises, lines, fact, model))

    def test_no_model_satisfies_premises_with_an_accepted_proof(self):
        stream = Stream(581)
        for signature in ((1, 1), (2, 0), (2, 1)):
            models, sentences = small_models(signature, 2), sentences_of(signature)
            for _ in range(50):
                premises = mixed_premises(sentences, stream, 5)
                proof = told_proof(signature, premises)
                if proof is not None:
                    self.assertIsNone(first_wrong(signature, premises, proof))
                    self.assertFalse(any(is_model_of(model, premises) for model in models))

    def test_kinds_that_follow_have_the_nouns_above(self):
        premises = (("all", 0, 1), ("some", 0, 0))
        for model in small_models((2, 0), 2):
            if is_model_of(model, premises):
                homes = homes_of(model)
                fits = [one for one in range(len(homes)) if is_of_kind(model, homes, one, ("one", 0))]
                over = above(2, premises, ("one", 0))
                self.assertTrue(any(all(has(model, homes, one, x) for x in over) for one in fits))


class FirstWrong(unittest.TestCase):
    premises = (("all", 0, 1), ("no", 0, 1), ("some", 0, 0))
    proof = (("all", 0, 1), ("one", 0), CLASH)

    def check(self, lines, wrong, premises=premises, signature=(2, 1)):
        found = first_wrong(signature, premises, lines)
        self.assertEqual(found, wrong, lines)
        self.assertNotIsInstance(found, bool)

    def test_accepted(self):
        self.check(self.proof, None)
        self.check((self.proof[1], self.proof[0], CLASH), None)
        self.check(self.proof + (CLASH,), None)
        self.check(self.proof + (("one", 0), CLASH), None)
        self.check(self.proof + (("all", 1, 1), ("one", 1), CLASH), None)

    def test_the_first_line_that_does_not_follow(self):
        self.check((("all", 1, 0),) + self.proof, 0)
        self.check(self.proof[:1] + (CLASH,), 1)
        self.check(self.proof[:2] + (("both", 0, 1), ("all", 1, 0), CLASH), 2)
        self.check((CLASH,), 0)
        self.check(self.proof + (("all", 1, 0),), 3)
        self.check((("one", 1), ("all", 0, 1), CLASH), 0)

    def test_without_the_clash_at_the_end(self):
        self.check((), 0)
        self.check(self.proof[:2], 2)
        self.check(self.proof + (("one", 0),), 4)
        self.check((self.proof[0],), 1)
        self.check((), 0, ())
        self.check((("all", 0, 0),) * 3, 3, ())

    def test_a_later_line_helps_no_earlier_one(self):
        self.check((("one", 1), ("one", 0), ("all", 0, 1), CLASH), 0)
        self.check((("one", 0), ("one", 1), ("all", 0, 1), CLASH), 1)
        self.check((("one", 0), CLASH, ("all", 0, 1)), 1)

    def test_most_lines(self):
        for many in (0, 1, 117):
            self.check((("all", 0, 0),) * many + self.proof, None)
        self.check((("all", 0, 0),) * 119 + (CLASH,), 119)
        self.check((("all", 0, 0),) * 120, 120)
        for wrong in ((("all", 0, 0),) * 118 + self.proof, (("all", 0, 0),) * 121, (CLASH,) * 121):
            with self.assertRaises(ValueError) as caught:
                first_wrong((2, 1), self.premises, wrong)
            self.assertEqual(caught.exception.name, "lines")

    def test_premises_without_a_conflict_have_no_accepted_proof(self):
        stream = Stream(61)
        for signature in SIGNATURES:
            sentences, facts = sentences_of(signature), all_facts(signature)
            for _ in range(25):
                premises = mixed_premises(sentences, stream)
                if can_hold(signature, premises):
                    lines = all_that_comes(signature, premises)
                    self.check(lines, len(lines), premises, signature)
                    self.check(lines + (CLASH,), len(lines), premises, signature)
                    for fact in facts:
                        self.assertIs(follows(signature, premises, lines, fact), fact in lines)


class StaysAccepted(unittest.TestCase):
    """Points 59, 63 and 64."""

    signature = (4, 2)

    def proofs(self, seed):
        """Premises without a model, each with a proof and with a stream for what comes."""
        stream, sentences = Stream(seed), sentences_of(self.signature)
        for _ in range(120):
            premises = mixed_premises(sentences, stream, 7)
            proof = told_proof(self.signature, premises)
            if proof is not None:
                yield premises, proof, stream

    def accept(self, premises, lines):
        self.assertIsNone(first_wrong(self.signature, premises, lines), (premises, lines))

    def test_with_further_lines_that_follow(self):
        facts = all_facts(self.signature)
        for premises, proof, _ in self.proofs(590):
            for at in range(len(proof)):
                new = [fact for fact in facts if follows(self.signature, premises, proof[:at], fact)]
                for fact in new:
                    self.accept(premises, proof[:at] + (fact,) + proof[at:])

    def test_a_further_line_or_premise_makes_no_line_wrong(self):
        facts, sentences = all_facts(self.signature), sentences_of(self.signature)
        for premises, proof, stream in self.proofs(591):
            more = facts[stream.below(len(facts))]
            further = premises + (sentences[stream.below(len(sentences))],)
            for at, line in enumerate(proof):
                self.assertIs(follows(self.signature, premises, (more,) + proof[:at], line), True)
                self.assertIs(follows(self.signature, further, proof[:at], line), True)

    def test_with_premises_exchanged_doubled_or_further_ones(self):
        sentences = sentences_of(self.signature)
        for premises, proof, stream in self.proofs(630):
            further = sentences[stream.below(len(sentences))]
            for other in (
                premises[::-1], premises[1:] + premises[:1], premises + premises[:1], premises + (further,),
                (further,) + premises,
            ):
                self.accept(other, proof)

    def test_with_nouns_and_verbs_renamed(self):
        for premises, proof, stream in self.proofs(631):
            order = [0, 1, 2, 3]
            for at in (3, 2, 1):
                other = stream.below(at + 1)
                order[at], order[other] = order[other], order[at]
            verbs = ((0, 1), (1, 0))[stream.below(2)]
            renamed = tuple(renamed_sentence(one, order, verbs) for one in premises)
            self.accept(renamed, tuple(self.renamed_fact(fact, order, verbs) for fact in proof))

    def renamed_fact(self, fact, order, verbs):
        if fact[0] == "both":
            return ("both",) + tuple(sorted(order[x] for x in fact[1:]))
        if fact[0] in ("all", "as many"):
            return renamed_sentence(fact, order, verbs)
        if fact[0] == "mark":
            return ("mark", order[fact[1]], fact[2], verbs[fact[3]], fact[4], order[fact[5]])
        if fact[0] == "self":
            return ("self", order[fact[1]], fact[2], verbs[fact[3]])
        return fact if fact == CLASH else ("one", order[fact[1]])

    def test_a_proof_for_some_of_the_premises(self):
        for premises, proof, _ in self.proofs(640):
            for at in range(len(premises)):
                some = premises[:at] + premises[at + 1:]
                other = told_proof(self.signature, some)
                if other is not None:
                    self.accept(premises, other)

    def test_without_a_premise_only_of_a_noun_and_itself(self):
        for signature in SIGNATURES:
            lines = all_that_comes(signature, ())
            nouns = range(signature[0])
            self.assertEqual(lines, tuple((word, x, x) for word in ("all", "as many") for x in nouns))
            for fact in all_facts(signature):
                self.assertIs(follows(signature, (), lines, fact), fact in lines)


class Refusals(unittest.TestCase):
    signature = ("signature", (2, 1), WRONG_SIGNATURES)
    premises = ("premises", (("all", 0, 1),) * 8, wrong_premises((2, 1)))
    lines = ("lines", (("all", 0, 1),) * 120, (
        None, False, 0, "", [], [CLASH], CLASH, ("all", 0, 1), (None,), ("clash",), (["clash"],), (("all", 0, 1), ()),
        (("all", 0, 1), ("all", 0, True)), (("both", 1, 0),), (("one", 2),), (("self", 0, True, 1),),
        (("some", 0, 1),), (("all", 0, 1),) * 121, ((CLASH,),), (CLASH, None),
    ))

    def test_is_fact_checks_its_signature(self):
        check_refusals(self, is_fact, self.signature, ("value", CLASH, ()))
        check_refusals(self, is_fact, self.signature, ("value", None, ()))

    def test_first_wrong(self):
        check_refusals(self, first_wrong, self.signature, self.premises, self.lines)

    def test_follows(self):
        wrong = wrong_facts((2, 1))
        check_refusals(
            self, follows, self.signature, self.premises, self.lines, ("fact", CLASH, wrong[:24] + wrong[24::5]))


class Example(unittest.TestCase):
    def test_of_point_66(self):
        premises = (("all", 0, 1), ("all", 1, 2), ("as many", 0, 2), ("some not", 2, 0))
        lines = premises[:3] + (("all", 0, 2), ("all", 2, 0), CLASH)
        self.assertIsNone(first_wrong((3, 0), premises, lines))
        self.assertEqual(told_proof((3, 0), premises), lines)


if __name__ == "__main__":
    unittest.main()
