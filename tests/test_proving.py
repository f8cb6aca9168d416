"""Points 58, 60, 61, 65 and 66: the told proof."""

import unittest

from allsomeno.conflicts import can_hold
from allsomeno.proofs import first_wrong
from allsomeno.proving import told_proof

from tests.cases import TRUTHS, verb
from tests.checking import SIGNATURES, WRONG_SIGNATURES, check_refusals, sentences_of, wrong_premises
from tests.reference import Stream, mixed_premises
from tests.second import is_accepted, told_proof_of

CLASH = ("clash",)


class Told(unittest.TestCase):
    def check(self, signature, premises, *lines):
        self.assertEqual(told_proof(signature, premises), lines + (CLASH,))

    def test_none(self):
        for signature in SIGNATURES:
            self.assertIsNone(told_proof(signature, ()))
            self.assertIsNone(told_proof(signature, (("no", 0, 0), ("all", 0, 0))))
            self.assertIsNone(told_proof(signature, (("as many", 0, 0),) * 8))

    def test_of_point_66(self):
        premises = (("all", 0, 1), ("all", 1, 2), ("as many", 0, 2), ("some not", 2, 0))
        self.check((3, 0), premises, *premises[:3], ("all", 0, 2), ("all", 2, 0))

    def test_of_each_form(self):
        self.check((2, 0), (("no", 0, 1), ("some", 1, 0)), ("both", 0, 1))
        self.check((2, 0), (("no", 0, 0), ("some", 0, 0)), ("one", 0))
        self.check((2, 0), (("some not", 1, 1),), ("all", 1, 1))
        # That as many 1 are there as 1 is what fewer 1 than 1 says, too.
        self.check((2, 0), (("fewer", 1, 1),), ("as many", 1, 1))
        self.check((2, 0), (("fewer", 0, 1), ("as many", 0, 1)), ("as many", 0, 1))
        self.check((2, 0), (("fewer", 0, 1), ("fewer", 1, 0)), ("as many", 0, 1))
        self.check((1, 1), (("self", "some", 0, True, 0), ("self", "all", 0, False, 0)), ("self", 0, True, 0))
        for does in TRUTHS:
            for by in TRUTHS:
                contrary = verb("all", 0, not does, 0, by, "all", 1)
                self.check((2, 1), (verb("some", 0, does, 0, by, "some", 1), contrary))
                told = (verb("all", 0, does, 0, by, "some", 1), contrary, ("some", 0, 0))
                self.check((2, 1), told, ("one", 0))
                mark = verb("some", 0, not does, 0, by, "all", 1)
                self.check((2, 1), (told[0], mark), ("mark", 0, not does, 0, by, 1))
                pair = (verb("all", 0, does, 0, by, "all", 1), contrary, ("some", 1, 1), ("some not", 0, 1))
                self.check((2, 1), pair, ("one", 1), ("one", 0))
                self.check((2, 1), pair[:2] + (("some", 0, 1),), ("both", 0, 1))

    def test_from_the_last_line_to_the_first_one(self):
        # The clash can come of either noun: the later line is taken away.
        self.check((2, 0), (("some not", 1, 1), ("some not", 0, 0)), ("all", 0, 0))
        self.check((2, 0), (("no", 1, 1), ("no", 0, 0), ("some", 1, 1), ("some", 0, 0)), ("one", 1))
        self.check((2, 0), (("no", 1, 1), ("no", 0, 0), ("some", 0, 0), ("some", 1, 1)), ("one", 0))
        self.check((2, 0), (("no", 0, 0), ("no", 1, 1), ("some", 0, 1)), ("both", 0, 1))

    def test_pairs_come_ahead_of_kinds(self):
        told = (("some", 0, 0), ("all", 0, 1), ("no", 0, 1))
        self.check((2, 0), told, ("all", 0, 1), ("one", 0))
        self.check((2, 0), (("some", 0, 0), ("as many", 1, 0), ("no", 1, 1)), ("as many", 1, 0), ("one", 0), ("one", 1))

    def test_a_second_round(self):
        # That all 1 are 0 comes only when it is known that there are as many.
        told = (("all", 0, 1), ("as many", 0, 1), ("some not", 1, 0))
        self.check((2, 0), told, ("all", 0, 1), ("as many", 0, 1), ("all", 1, 0))
        needs = (verb("all", 1, True, 0, False, "some", 0), ("some", 1, 1), ("no", 0, 0))
        self.check((2, 1), needs, ("one", 1), ("one", 0))


class Mixed(unittest.TestCase):
    def test_accepted_and_not_without_any_one_of_its_lines(self):
        stream = Stream(60)
        for signature in SIGNATURES:
            sentences = sentences_of(signature)
            for _ in range(60):
                premises = mixed_premises(sentences, stream)
                proof = told_proof(signature, premises)
                self.assertIs(proof is None, can_hold(signature, premises))
                if proof is None:
                    continue
                self.assertIsNone(first_wrong(signature, premises, proof))
                self.assertIs(is_accepted(signature, premises, proof), True)
                self.assertLessEqual(len(proof), 120)
                for at in range(len(proof)):
                    fewer = proof[:at] + proof[at + 1:]
                    self.assertIsNotNone(first_wrong(signature, premises, fewer), (premises, fewer))

    def test_it_is_that_of_the_document(self):
        stream = Stream(601)
        for signature in SIGNATURES:
            sentences = sentences_of(signature)
            for _ in range(60):
                premises = mixed_premises(sentences, stream)
                if not can_hold(signature, premises):
                    proof = told_proof(signature, premises)
                    self.assertEqual(proof, told_proof_of(signature, premises))
                    self.assertEqual(repr(proof), repr(told_proof_of(signature, premises)))

    def test_of_premises_about_nouns(self):
        stream = Stream(602)
        chosen = [one for one in sentences_of((4, 0)) if one[0] in ("all", "as many", "fewer", "some not")]
        for _ in range(150):
            premises = tuple(chosen[stream.below(len(chosen))] for _ in range(2 + stream.below(7)))
            if not can_hold((4, 0), premises):
                self.assertEqual(told_proof((4, 0), premises), told_proof_of((4, 0), premises))


class Refusals(unittest.TestCase):
    def test_wrong_arguments(self):
        for signature in ((2, 1), (1, 0), (4, 2)):
            check_refusals(
                self, told_proof, ("signature", signature, WRONG_SIGNATURES),
                ("premises", (("some not", 0, 0),) * 8, wrong_premises(signature)))


if __name__ == "__main__":
    unittest.main()
