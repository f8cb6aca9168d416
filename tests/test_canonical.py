"""Points 45 to 49 and 52 to 54: the canonical model of premises, and the judge of models."""

import unittest

from allsomeno.canonical import accepts_model, canonical_model
from allsomeno.conflicts import can_hold, conflicts
from allsomeno.errors import NotPossible
from allsomeno.kinds import kinds_required, nouns_above
from allsomeno.models import is_model
from allsomeno.proofs import first_wrong
from allsomeno.proving import told_proof
from allsomeno.tables import at_least, nouns_required, subsets
from allsomeno.witnesses import restricted

from tests.cases import many_premises, verb
from tests.checking import SIGNATURES, VALUES, WRONG_SIGNATURES, check_refusals, sentences_of, wrong_premises
from tests.reference import Stream, is_model_of, mixed_model, mixed_premises, small_models, truth
from tests.second import canonical_of

SOME_0 = ("some", 0, 0)


def sizes(signature, premises):
    return [size for size, _ in canonical_model(signature, premises)[0]]


class Groups(unittest.TestCase):
    def test_no_premises(self):
        for nouns, verbs in SIGNATURES:
            self.assertEqual(canonical_model((nouns, verbs), ()), ((), ((),) * verbs, ((),) * verbs))

    def test_three_for_each_kind_in_order(self):
        model = canonical_model((3, 1), (("some", 2, 0), ("self", "some", 2, True, 0), ("all", 0, 1)))
        nouns = [(0, 1), (1,), (2,), (0, 1, 2), (2,)]
        self.assertEqual([own for _, own in model[0]], [own for own in nouns for _ in range(3)])

    def test_eight_premises(self):
        eight = tuple(("self", "some", x, does, v) for x in (0, 1) for does in (True, False) for v in (0, 1))
        model = canonical_model((4, 2), eight)
        self.assertEqual(len(model[0]), 30)
        marks = tuple(verb("some", x, True, v, False, "all", 3) for x in range(4) for v in (0, 1))
        self.assertEqual(len(canonical_model((4, 2), marks)[0]), 36)
        self.assertTrue(is_model_of(canonical_model((4, 2), marks), marks))

    def test_nouns_are_those_above(self):
        for signature, premises in many_premises(46, SIGNATURES, 20):
            if can_hold(signature, premises):
                groups = canonical_model(signature, premises)[0]
                told = [nouns_above(signature, premises, kind) for kind in kinds_required(signature, premises)]
                self.assertEqual([nouns for _, nouns in groups], [nouns for nouns in told for _ in range(3)])


class Sizes(unittest.TestCase):
    def test_one_level(self):
        # Two have the noun in the copies 1 and 2, so the size is 3.
        self.assertEqual(sizes((1, 0), (SOME_0,)), [1, 1, 1])
        self.assertEqual(sizes((2, 0), (SOME_0, ("some", 1, 1))), [1, 1, 1, 1, 1, 1])
        # With "both" five have each of the two nouns.
        self.assertEqual(sizes((2, 0), (("some", 0, 1),)), [1] * 9)

    def test_of_point_54(self):
        premises = (("all", 0, 1), ("fewer", 0, 2), SOME_0)
        self.assertEqual(kinds_required((3, 0), premises), (("one", 0), ("one", 1), ("one", 2)))
        self.assertEqual(sizes((3, 0), premises), [1, 1, 1, 1, 1, 1, 4, 1, 1])
        self.assertEqual(conflicts((3, 0), premises), ())

    def test_the_same_noun_by_another_name(self):
        same = (("all", 0, 1), ("all", 1, 0), SOME_0)
        self.assertEqual(sizes((2, 0), same), [1] * 6)
        three = same + (("all", 2, 1), ("all", 1, 2))
        self.assertEqual(sizes((3, 0), three), [1] * 9)
        self.assertEqual(sizes((4, 0), (("all", 1, 3), ("all", 3, 1), ("fewer", 0, 3), SOME_0)), [1] * 9)

    def test_only_the_least_one_of_the_same_gets_what_is_lacking(self):
        same = (("all", 0, 1), ("all", 1, 0))
        # Fourteen have 2 in other groups than its copy 0, so 2 has the size 15, and 0 and 1 have 16.
        alone = tuple(("self", "some", 2, does, v) for does in (True, False) for v in (0, 1))
        told = same + alone + (("fewer", 2, 1),)
        self.assertEqual(sizes((3, 2), told), [11, 1, 1, 1, 1, 1] + [1] * 15)

    def test_of_the_same_level(self):
        # 1 and 2 have more than 0 each; 2 has 0 as a subset and so three more already.
        self.assertEqual(
            sizes((3, 0), (("all", 0, 2), ("fewer", 0, 1), ("fewer", 0, 2), SOME_0)), [1, 1, 1, 4, 1, 1, 1, 1, 1])
        equal = (("as many", 0, 1), ("as many", 1, 0), ("some", 0, 1), ("some not", 0, 1))
        self.assertEqual(sizes((2, 0), equal), [1] * 9)

    def test_levels_that_nobody_has_are_passed(self):
        # 0 and 1 have as many as one another: the level 1 is empty, 2 has the level 3.
        told = (("as many", 0, 1), ("as many", 1, 0), ("fewer", 0, 2), SOME_0)
        self.assertEqual(sizes((3, 0), told), [1, 1, 1, 1, 1, 1, 2, 1, 1])
        # All 0 are 3, and nothing else is known of 3: it has the level 2, and 2 the level 3.
        more = (("fewer", 0, 1), ("fewer", 1, 2), ("all", 0, 3), SOME_0)
        self.assertEqual(sizes((4, 0), more), [1, 1, 1, 4, 1, 1, 5, 1, 1, 1, 1, 1])

    def test_groups_of_other_forms_count(self):
        told = (("self", "some", 0, True, 0), ("self", "some", 0, False, 0), ("some", 1, 1))
        # Eight have 0 in other groups than its copy 0, and two have 1; both have the level 1, so the size is 9.
        self.assertEqual(sizes((2, 1), told), [1, 1, 1, 7, 1, 1] + [1] * 6)

    def test_only_required_nouns_have_a_level(self):
        # 1 would have at least as many as 0, but nobody has 0.
        self.assertEqual(sizes((3, 0), (("all", 0, 1), ("some", 1, 1), ("some", 2, 2))), [1] * 6)

    def test_four_in_a_row(self):
        row = (("fewer", 0, 1), ("fewer", 1, 2), ("fewer", 2, 3), SOME_0)
        self.assertEqual(sizes((4, 0), row), [1, 1, 1, 2, 1, 1, 3, 1, 1, 4, 1, 1])
        chain = (("all", 0, 1), ("all", 1, 2), ("all", 2, 3), SOME_0)
        self.assertEqual(sizes((4, 0), chain), [1] * 12)


class Deeds(unittest.TestCase):
    def test_free(self):
        model = canonical_model((1, 1), (SOME_0,))
        self.assertEqual(model, (((1, (0,)),) * 3, (((1,), (2,), (0,)),), ((),)))

    def test_free_between_two_kinds(self):
        rows = canonical_model((2, 1), (SOME_0, ("some", 1, 1)))[1][0]
        self.assertEqual(rows, ((1, 4), (2, 5), (0, 3)) * 2)

    def test_yes(self):
        told = (SOME_0, ("some", 1, 1), verb("all", 0, True, 0, False, "all", 1))
        rows = ((1, 3, 4, 5), (2, 3, 4, 5), (0, 3, 4, 5), (1, 4), (2, 5), (0, 3))
        self.assertEqual(canonical_model((2, 1), told)[1][0], rows)

    def test_a_group_stands_in_its_own_row_if_and_only_if_yes_is_forced(self):
        told = (SOME_0, verb("all", 0, True, 0, False, "all", 0))
        self.assertEqual(canonical_model((1, 1), told), (((1, (0,)),) * 3, (((0, 1, 2),) * 3,), ((0, 1, 2),)))

    def test_no(self):
        told = (SOME_0, ("some", 1, 1), verb("all", 0, False, 1, True, "all", 1))
        rows = canonical_model((2, 2), told)[1]
        self.assertEqual(rows[0], ((1, 4), (2, 5), (0, 3)) * 2)
        self.assertEqual(rows[1], ((1, 4), (2, 5), (0, 3), (4,), (5,), (3,)))

    def test_to_themselves(self):
        told = tuple(("self", "some", 0, does, 0) for does in (True, False))
        told += (("self", "all", 1, True, 0), ("some", 1, 1))
        self.assertEqual(canonical_model((2, 1), told)[2], ((3, 4, 5, 6, 7, 8),))
        self.assertEqual(canonical_model((1, 1), (SOME_0, ("self", "all", 0, False, 0)))[2], ((),))

    def test_two_copies_would_not_be_enough(self):
        premises = (
            SOME_0, ("self", "all", 0, True, 0), verb("all", 0, True, 0, False, "some", 0),
            verb("all", 0, False, 0, False, "some", 0))
        model = canonical_model((1, 1), premises)
        self.assertIs(is_model_of(model, premises), True)
        self.assertIs(is_model_of(restricted((1, 1), model, (0, 1)), premises), False)
        two = (((1, (0,)), (1, (0,))), (((1,), (0,)),), ((0, 1),))
        self.assertIs(is_model_of(two, premises), False)


class Mixed(unittest.TestCase):
    def test_it_satisfies_the_premises(self):
        for signature, premises in many_premises(47, SIGNATURES, 90):
            if can_hold(signature, premises):
                model = canonical_model(signature, premises)
                self.assertIs(is_model(signature, model), True)
                for premise in premises:
                    self.assertIs(truth(model, premise), True, (premises, premise))
                self.assertIs(accepts_model(signature, premises, model), True)

    def test_it_is_that_of_the_document(self):
        for signature, premises in many_premises(48, SIGNATURES, 90):
            if can_hold(signature, premises):
                model = canonical_model(signature, premises)
                self.assertEqual(model, canonical_of(signature, premises))
                self.assertEqual(repr(model), repr(canonical_of(signature, premises)))

    def test_of_premises_about_nouns(self):
        stream = Stream(49)
        chosen = [one for one in sentences_of((4, 0)) if one[0] in ("all", "as many", "fewer", "some")]
        for _ in range(500):
            premises = tuple(chosen[stream.below(len(chosen))] for _ in range(stream.below(9)))
            if can_hold((4, 0), premises):
                self.assertEqual(canonical_model((4, 0), premises), canonical_of((4, 0), premises))
                self.assertIs(is_model_of(canonical_model((4, 0), premises), premises), True)


class WhatStandsInIt(unittest.TestCase):
    """Point 48."""

    def test_nouns_subsets_and_levels(self):
        for signature, premises in many_premises(481, SIGNATURES, 50):
            if not can_hold(signature, premises):
                continue
            model = canonical_model(signature, premises)
            needed = nouns_required(signature, premises)
            inside, enough = subsets(signature, premises), at_least(signature, premises)
            for x in range(signature[0]):
                self.assertIs(truth(model, ("some", x, x)), x in needed)
            many = {x: sum(size for size, nouns in model[0] if x in nouns) for x in needed}
            level = {x: 1 + sum((x, y) in enough for y in needed if y != x) for x in needed}
            for x in needed:
                for y in needed:
                    if x != y:
                        self.assertIs(truth(model, ("all", x, y)), (x, y) in inside)
                        self.assertEqual(many[x] < many[y], level[x] < level[y])
                        self.assertEqual(many[x] == many[y], level[x] == level[y])


class Evidence(unittest.TestCase):
    """Point 49."""

    def test_exactly_one_of_a_model_and_a_proof(self):
        for signature, premises in many_premises(491, SIGNATURES, 40):
            if can_hold(signature, premises):
                self.assertIs(accepts_model(signature, premises, canonical_model(signature, premises)), True)
                self.assertIsNone(told_proof(signature, premises))
            else:
                self.assertIsNone(first_wrong(signature, premises, told_proof(signature, premises)))
                with self.assertRaises(NotPossible):
                    canonical_model(signature, premises)

    def test_small_models_are_accepted_if_the_premises_hold_in_them(self):
        stream = Stream(492)
        for signature in ((1, 0), (2, 0), (1, 1), (2, 1)):
            models = small_models(signature, 2)
            for _ in range(15):
                premises = mixed_premises(sentences_of(signature), stream, 3)
                for model in models[::3]:
                    self.assertIs(accepts_model(signature, premises, model), is_model_of(model, premises))

    def test_mixed_models(self):
        stream = Stream(493)
        for signature in ((2, 1), (4, 2)):
            for _ in range(150):
                model, premises = mixed_model(signature, stream), mixed_premises(sentences_of(signature), stream, 2)
                self.assertIs(accepts_model(signature, premises, model), is_model_of(model, premises))

    def test_values_of_every_kind(self):
        for value in VALUES:
            right = isinstance(value, tuple) and value in (((), (), ()), (((1, ()),), (), ()))
            self.assertIs(accepts_model((2, 0), (), value), right, value)
            self.assertIs(accepts_model((2, 1), (), value), False, value)
            self.assertIs(accepts_model((2, 0), (SOME_0,), value), False, value)

    def test_models_near_to_a_right_one(self):
        model = (((1, (0,)),), (((0,),),), ((0,),))
        self.assertIs(accepts_model((1, 1), (SOME_0,), model), True)
        for wrong in (
            list(model), model[:2], model + ((),), ([(1, (0,))],) + model[1:], (([1, (0,)],),) + model[1:],
            (((True, (0,)),),) + model[1:], (((1, (False,)),),) + model[1:], (((1, [0]),),) + model[1:],
            (((1, (1,)),),) + model[1:], (((1001, (0,)),),) + model[1:], (model[0], (((False,),),), ((0,),)),
            (model[0], (((0,),),), ((False,),)), (model[0], (((1,),),), ((0,),)), (model[0], (), ((0,),)),
            (((1, (0,)),) * 41, (((),) * 41,), ((),)),
        ):
            self.assertIs(accepts_model((1, 1), (SOME_0,), wrong), False, wrong)
        self.assertIs(accepts_model((1, 1), (SOME_0,), (((1, (0,)),) * 40, (((),) * 40,), ((),))), True)


class Refusals(unittest.TestCase):
    premises = ("premises", (SOME_0,) * 8, wrong_premises((2, 1)))

    def test_wrong_arguments(self):
        signature = ("signature", (2, 1), WRONG_SIGNATURES)
        check_refusals(self, canonical_model, signature, self.premises)
        check_refusals(self, accepts_model, signature, self.premises, ("value", None, ()))
        check_refusals(self, accepts_model, signature, self.premises, ("value", ((), ((),), ((),)), ()))

    def test_a_conflict_comes_behind_wrong_arguments(self):
        for signature, premises in many_premises(53, SIGNATURES, 30):
            if not can_hold(signature, premises):
                with self.assertRaises(NotPossible) as caught:
                    canonical_model(signature, premises)
                self.assertEqual(caught.exception.why, "conflict")
        wrong = (("some not", 0, 0), ("some", 0, 5))
        with self.assertRaises(ValueError) as caught:
            canonical_model((2, 1), wrong)
        self.assertEqual(caught.exception.name, "premises")

    def test_the_judge_takes_premises_with_a_conflict(self):
        self.assertIs(accepts_model((1, 0), (("some not", 0, 0),), ((), (), ())), False)


if __name__ == "__main__":
    unittest.main()
