"""Points 82, 83, 87 and 88: evidence of the reasons, and its judge."""

import unittest

from allsomeno.canonical import canonical_model
from allsomeno.grounds import accepts_reasons, reasons_evidence
from allsomeno.proving import told_proof
from allsomeno.reasons import reasons

from tests.cases import NOBODY, enough_by, grounds
from tests.checking import SIGNATURES, VALUES, WRONG_SIGNATURES, check_refusals, with_item
from tests.checking import wrong_premises, wrong_sentences
from tests.reference import is_model_of
from tests.second import canonical_of, is_accepted, negation_of, parts_of, reasons_by, told_proof_of

CLAIM = ("all", 0, 2)
FOUR = (("all", 0, 1), ("all", 1, 2), ("no", 2, 0), ("some", 0, 1))
TWO = (("some", 0, 1), ("some", 0, 2))
EIGHT = (
    ("all", 0, 1), ("all", 1, 3), ("all", 0, 2), ("all", 2, 3), ("as many", 0, 3), ("fewer", 3, 2), ("some", 0, 0),
    ("all", 0, 1),
)


def against(premises, claim, part):
    """The premises of the part, with the negation of the claim behind them if there is one."""
    return tuple(premises[index] for index in part) + (() if claim is None else (negation_of(claim),))


def evidence_by(signature, premises, claim):
    """The told evidence (point 83), by going through all parts one by one."""
    told = enough_by(signature, premises, claim)
    found = reasons_by(len(premises), told)
    greatest = [
        part for part in told if not told[part] and all(told[other] for other in told if set(part) < set(other))]
    return (
        tuple(found),
        tuple(told_proof_of(signature, against(premises, claim, part)) for part in found),
        tuple(canonical_of(signature, against(premises, claim, part)) for part in greatest),
    )


def is_evidence(signature, premises, claim, value):
    """What the judge says (point 82) of a value that is reasons, proofs and models, a second time."""
    found, proofs, models = value
    for part, proof in zip(found, proofs):
        if not is_accepted(signature, against(premises, claim, part), proof):
            return False
    if len(found) != len(proofs) or any(set(one) < set(other) for one in found for other in found):
        return False
    if list(found) != [part for part in parts_of(len(premises)) if part in found]:
        return False
    if claim is not None and any(is_model_of(model, (claim,)) for model in models):
        return False
    for part in parts_of(len(premises)):
        if not any(set(one) <= set(part) for one in found):
            if not any(is_model_of(model, [premises[index] for index in part]) for model in models):
                return False
    return True


class ToldEvidence(unittest.TestCase):
    def test_of_point_88(self):
        found, proofs, models = reasons_evidence((3, 0), FOUR, CLAIM)
        self.assertEqual(found, ((0, 1), (1, 2, 3)))
        told = [FOUR[:2] + (("some not", 0, 2),), FOUR[1:] + (("some not", 0, 2),)]
        self.assertEqual(proofs, tuple(told_proof((3, 0), one) for one in told))
        # Greatest without 1: all others; with 1, no 0, and not both of 2 and 3.
        parts = [(1, 2), (1, 3), (0, 2, 3)]
        self.assertEqual(models, tuple(canonical_model((3, 0), against(FOUR, CLAIM, part)) for part in parts))

    def test_of_no_premises(self):
        self.assertEqual(reasons_evidence((1, 0), (), None), ((), (), (NOBODY,)))
        told = (((),), ((("all", 0, 0), ("clash",)),), ())
        self.assertEqual(reasons_evidence((1, 0), (), ("all", 0, 0)), told)
        self.assertEqual(reasons_evidence((1, 0), (), ("some", 0, 0)), ((), (), (NOBODY,)))
        self.assertEqual(reasons_evidence((1, 0), (), ("some not", 0, 0)), ((), (), (NOBODY,)))

    def test_models_in_order_by_size(self):
        premises = (("some", 0, 0), ("no", 0, 0), ("some", 0, 0))
        parts = [(1,), (0, 2)]
        models = tuple(canonical_model((1, 0), against(premises, None, part)) for part in parts)
        self.assertEqual(reasons_evidence((1, 0), premises, None)[2], models)

    def test_it_is_that_of_the_document(self):
        for signature, premises, claim in grounds(83, SIGNATURES, 25):
            self.assertEqual(
                reasons_evidence(signature, premises, claim), evidence_by(signature, premises, claim))

    def test_accepted(self):
        for signature, premises, claim in grounds(82, SIGNATURES, 25):
            told = reasons_evidence(signature, premises, claim)
            self.assertEqual(list(told[0]), reasons(signature, premises, claim))
            self.assertIs(accepts_reasons(signature, premises, claim, told), True)
            self.assertIs(is_evidence(signature, premises, claim, told), True)

    def test_eight_premises_and_a_claim(self):
        for claim in (None, ("all", 0, 3), ("fewer", 3, 0), ("all", 3, 3)):
            told = reasons_evidence((4, 0), EIGHT, claim)
            self.assertEqual(told, evidence_by((4, 0), EIGHT, claim))
            self.assertIs(accepts_reasons((4, 0), EIGHT, claim, told), True)
        for signature, premises, claim in grounds(821, ((3, 0), (4, 2)), 15, 8):
            told = reasons_evidence(signature, premises, claim)
            self.assertIs(accepts_reasons(signature, premises, claim, told), True)

    def test_sixteen_reasons(self):
        premises = (("no", 0, 0),) * 4 + (("some", 0, 0),) * 4
        told = reasons_evidence((4, 2), premises, None)
        self.assertEqual(told[0], tuple((x, y) for x in range(4) for y in range(4, 8)))
        self.assertEqual(len(told[2]), 2)
        self.assertIs(accepts_reasons((4, 2), premises, None, told), True)


class Judge(unittest.TestCase):
    def setUp(self):
        self.told = reasons_evidence((3, 0), FOUR, CLAIM)

    def check(self, value, right=False, premises=FOUR, claim=CLAIM):
        self.assertIs(accepts_reasons((3, 0), premises, claim, value), right, value)

    def test_a_reason_left_out(self):
        found, proofs, models = self.told
        self.check((found[:1], proofs[:1], models))
        self.check((found[1:], proofs[1:], models))
        self.check(((), (), models))
        # The models would have to satisfy all premises of the reason that is left out.
        self.check(((), (), models + (NOBODY,)))

    def test_parts_in_another_order_or_twice(self):
        found, proofs, models = self.told
        self.check((found[::-1], proofs[::-1], models))
        self.check((found + found[1:], proofs + proofs[1:], models))
        self.check((found[:1] + found, proofs[:1] + proofs, models))
        self.check((((1, 0), (1, 2, 3)), proofs, models))
        self.check((((0, 1), (1, 3, 2)), proofs, models))
        self.check((((0, 1, 1), (1, 2, 3)), proofs, models))
        told = reasons_evidence((3, 0), TWO, ("some", 0, 0))
        self.assertEqual(told[0], ((0,), (1,)))
        self.check(told, True, TWO, ("some", 0, 0))
        self.check((told[0][::-1], told[1][::-1], told[2]), False, TWO, ("some", 0, 0))

    def test_a_part_with_all_indexes_of_another_one(self):
        found, proofs, models = self.told
        # The proof of the two premises is one of these and a third one, too.
        self.check((((0, 1), (0, 1, 2), (1, 2, 3)), proofs[:1] + proofs, models))
        self.check((((0, 1), (0, 1, 3), (1, 2, 3)), proofs[:1] + proofs, models))
        self.check((((0, 1, 2), (1, 2, 3)), proofs, models))
        self.check((((0, 1, 2), (0, 1, 3), (1, 2, 3)), proofs[:1] + proofs, models + (NOBODY,)))
        told = reasons_evidence((3, 0), TWO, ("all", 0, 0))
        self.check(told, True, TWO, ("all", 0, 0))
        self.check((((), (0,)), told[1] * 2, ()), False, TWO, ("all", 0, 0))
        self.check((((0,),), told[1], ()), False, TWO, ("all", 0, 0))

    def test_a_reason_too_great(self):
        # All that is said is so, but the smaller part is met by no model.
        premises = (("all", 0, 1), ("no", 2, 2))
        claim = ("all", 0, 1)
        told = reasons_evidence((3, 0), premises, claim)
        self.assertEqual(told[0], ((0,),))
        self.check(told, True, premises, claim)
        self.check((((0, 1),), told[1], told[2]), False, premises, claim)

    def test_proofs_exchanged_or_left_out(self):
        found, proofs, models = self.told
        self.check((found, proofs[::-1], models))
        self.check((found, proofs[:1], models))
        self.check((found, proofs + proofs[:1], models))
        self.check((found, (), models))
        self.check((found, (proofs[0], ()), models))
        self.check((found, (proofs[0], NOBODY), models))
        for at in (0, 1):
            for line in range(len(proofs[at])):
                fewer = proofs[at][:line] + proofs[at][line + 1:]
                self.check((found, with_item(proofs, at, fewer), models))
            longer = (("all", 2, 2),) * (120 - len(proofs[at])) + proofs[at]
            self.check((found, with_item(proofs, at, longer), models), True)
            self.check((found, with_item(proofs, at, longer[:1] + longer), models))

    def test_models_left_out_or_exchanged(self):
        found, proofs, models = self.told
        self.check((found, proofs, models[::-1]), True)
        self.check((found, proofs, ()))
        for at in range(len(models)):
            self.check((found, proofs, models[:at] + models[at + 1:]))
            self.check((found, proofs, with_item(models, at, NOBODY)))
            self.check((found, proofs, with_item(models, at, proofs[0])))

    def test_a_model_in_which_the_claim_holds(self):
        found, proofs, models = self.told
        self.check((found, proofs, models + (NOBODY,)))
        self.check((found, proofs, (NOBODY,) + models))
        other = (((1, (0,)),), (), ())
        self.check((found, proofs, models + (other,)), True)
        none = reasons_evidence((3, 0), FOUR, None)
        self.check(none, True, FOUR, None)
        self.check((none[0], none[1], none[2] + (NOBODY,)), True, FOUR, None)
        self.check(none)
        self.check(self.told, False, FOUR, None)

    def test_one_model_for_many_parts(self):
        # Nobody has 0: so of all premises each part holds that is without the last one.
        premises = (("no", 0, 1), ("no", 0, 2), ("all", 0, 1))
        self.check(((), (), (NOBODY,)), True, premises, None)
        self.check(((), (), ()), False, premises, None)
        self.check(((), (), ()), False, (), None)
        self.check(((), (), (NOBODY,)), True, (), None)
        self.check(((), (), ((((1, (0,)),), (), ()),)), False, premises, None)

    def test_most_models(self):
        found, proofs, models = self.told
        self.check((found, proofs, models + models[:1] * (80 - len(models))), True)
        self.check((found, proofs, models + models[:1] * (81 - len(models))))
        self.check(((), (), (NOBODY,) * 80), True, (), None)
        self.check(((), (), (NOBODY,) * 81), False, (), None)

    def test_seventy_parts_and_more(self):
        # No premises have so many reasons that none has all indexes of another one, so these have wrong proofs.
        eight = (("no", 0, 0),) * 8
        four = [part for part in parts_of(8) if len(part) == 4]
        self.assertEqual(len(four), 70)
        for parts in (four, four + [(0, 1, 2, 3, 4)], [(0, 1, 2)] + four):
            self.check((tuple(parts), ((("clash",),),) * len(parts), (NOBODY,)), False, eight, None)

    def test_lists_for_tuples(self):
        found, proofs, models = self.told
        self.check(list(self.told))
        for at in range(3):
            self.check(with_item(self.told, at, list(self.told[at])))
            self.check(with_item(self.told, at, with_item(self.told[at], 0, list(self.told[at][0]))))
        self.check((found, ((list(proofs[0][0]),) + proofs[0][1:],) + proofs[1:], models))
        self.check((found, proofs, ((list(models[0][0]),) + models[0][1:],) + models[1:]))

    def test_true_and_false_for_integers(self):
        found, proofs, models = self.told
        self.check((((False, 1), (1, 2, 3)), proofs, models))
        self.check((((0, True), (1, 2, 3)), proofs, models))
        self.check((((0, 1), (True, 2, 3)), proofs, models))
        groups = models[0][0]
        self.check((found, proofs, (((((True, groups[0][1]),) + groups[1:]),) + models[0][1:],) + models[1:]))
        told = reasons_evidence((1, 0), (("fewer", 0, 0),), None)
        self.assertIs(accepts_reasons((1, 0), (("fewer", 0, 0),), None, told), True)
        wrong = (told[0], ((("as many", False, 0), ("clash",)),), told[2])
        self.assertIs(accepts_reasons((1, 0), (("fewer", 0, 0),), None, wrong), False)

    def test_indexes_that_are_none(self):
        found, proofs, models = self.told
        for part in ((1, 2, 4), (-3, 2, 3), (1, 2, "3"), (1, 2, None), (1, 2, (3,)), "123", None, 1, (1, 2, 10 ** 30)):
            self.check((((0, 1), part), proofs, models))
            self.check(((part, (1, 2, 3)), proofs, models))

    def test_other_lengths(self):
        for value in (self.told[:2], self.told + ((),), self.told + self.told, (self.told,), self.told[::-1], ()):
            self.check(value)
        for at in range(3):
            for wrong in (None, True, 0, "", (None,), ("",), (0,), ((None,),)):
                self.check(with_item(self.told, at, wrong))

    def test_values_of_every_kind(self):
        for value in VALUES:
            for claim in (None, ("all", 0, 0), ("some", 1, 1)):
                self.check(value, False, (("some", 0, 0),), claim)
                self.assertIs(accepts_reasons((1, 0), (), ("all", 0, 0), value), False)

    def test_of_the_interface(self):
        found, proofs, models = self.told
        self.check(self.told, True)
        self.check((found[:1], proofs[:1], models))

    def test_with_other_arguments(self):
        for signature, premises, claim in grounds(822, ((2, 1), (3, 0)), 40, 4):
            told = reasons_evidence(signature, premises, claim)
            others = [(premises[1:], claim), (premises, None), (premises[::-1], claim), (premises, ("all", 0, 0))]
            for other, told_claim in others:
                self.assertIs(
                    accepts_reasons(signature, other, told_claim, told),
                    self.second_judge(signature, other, told_claim, told))

    def second_judge(self, signature, premises, claim, told):
        if any(index >= len(premises) for part in told[0] for index in part):
            return False
        return is_evidence(signature, premises, claim, told)

    def test_parts_of_the_evidence_left_out(self):
        for signature, premises, claim in grounds(823, ((2, 1), (3, 0)), 40, 4):
            found, proofs, models = reasons_evidence(signature, premises, claim)
            for at in range(len(found)):
                value = (found[:at] + found[at + 1:], proofs[:at] + proofs[at + 1:], models)
                self.assertIs(accepts_reasons(signature, premises, claim, value), False)
            for at in range(len(models)):
                value = (found, proofs, models[:at] + models[at + 1:])
                right = is_evidence(signature, premises, claim, value)
                self.assertIs(accepts_reasons(signature, premises, claim, value), right)


class Refusals(unittest.TestCase):
    signature = ("signature", (2, 1), WRONG_SIGNATURES)
    premises = ("premises", (("all", 0, 1),) * 8, wrong_premises((2, 1)))
    wrong = [one for one in wrong_sentences((2, 1)) if one is not None]
    wrong = wrong[:10] + wrong[10::97]

    def test_evidence(self):
        for claim in (None, ("some", 0, 1)):
            check_refusals(self, reasons_evidence, self.signature, self.premises, ("claim", claim, self.wrong))

    def test_judge(self):
        for value in (None, ((), (), (NOBODY,))):
            check_refusals(
                self, accepts_reasons, self.signature, self.premises, ("claim", None, self.wrong),
                ("value", value, ()))


if __name__ == "__main__":
    unittest.main()
