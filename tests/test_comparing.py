"""Points 89 to 98: premises compared, differences and proofs with their judges, and pruning."""

import unittest

from allsomeno.canonical import canonical_model
from allsomeno.comparing import accepts_difference, accepts_proofs, are_equivalent, difference, entails
from allsomeno.comparing import needless, proofs, pruned
from allsomeno.conflicts import can_hold
from allsomeno.errors import BadValue
from allsomeno.models import is_model
from allsomeno.proofs import first_wrong
from allsomeno.sentences import negation, told_form
from allsomeno.verdicts import is_consequence

from tests.cases import NOBODY, compared, many_premises, verb
from tests.checking import SIGNATURES, VALUES, WRONG_SIGNATURES, check_refusals, sentences_of, with_item
from tests.checking import wrong_premises
from tests.reference import Stream, is_model_of, mixed_model, mixed_premises, small_models, truth
from tests.second import canonical_of, conflicts_of, is_accepted, negation_of

CHAIN = (("all", 0, 1), ("all", 1, 2))
ENDS = (("all", 0, 2), ("as many", 2, 0))
ONE_0_AND_2 = (((1, (0, 2)),), (), ())
NEVER = (("no", 0, 1), ("some", 1, 0))
SEVEN = (
    ("fewer", 0, 1), ("fewer", 1, 2), ("fewer", 2, 3), ("some", 0, 1), ("some", 1, 2), ("some not", 0, 3),
    verb("all", 3, True, 0, False, "some", 3),
)


def first_not_entailed(signature, first, second):
    """The index of the first of the second premises that the first ones do not entail, by conflicts worked out anew."""
    for index, sentence in enumerate(second):
        if not conflicts_of(signature, first + (negation_of(sentence),)):
            return index
    return None


def without(premises, at):
    return premises[:at] + premises[at + 1:]


def needless_by(signature, premises):
    """The needless sentences (point 93), likewise."""
    return tuple(
        at for at, sentence in enumerate(premises)
        if first_not_entailed(signature, without(premises, at), (sentence,)) is None)


def pruned_by(signature, premises):
    """What comes by pruning (point 93), likewise."""
    found = needless_by(signature, premises)
    return pruned_by(signature, without(premises, found[-1])) if found else premises


def is_difference(first, second, value):
    """Whether a pair of an index and a model is a difference (point 90), counted one by one."""
    index, model = value
    return is_model_of(model, first) and not truth(model, second[index])


class Entailed(unittest.TestCase):
    def check(self, signature, first, second, index):
        """The index is that of the first sentence that is not entailed, or None."""
        self.assertIs(entails(signature, first, second), index is None, (first, second))
        told, proved = difference(signature, first, second), proofs(signature, first, second)
        if index is None:
            self.assertIsNone(told)
            self.assertIsInstance(proved, tuple)
            self.assertIs(accepts_proofs(signature, first, second, proved), True)
        else:
            self.assertIsNone(proved)
            self.assertIsInstance(told, tuple)
            self.assertEqual(told[0], index)
            self.assertIs(accepts_difference(signature, first, second, told), True)

    def test_of_point_98(self):
        self.check((3, 0), CHAIN, ENDS, None)
        self.check((3, 0), ENDS, CHAIN, 0)
        self.check((3, 0), ENDS, CHAIN[1:], 0)
        self.assertIs(is_difference(ENDS, CHAIN, (0, ONE_0_AND_2)), True)
        self.assertIs(accepts_difference((3, 0), ENDS, CHAIN, (0, ONE_0_AND_2)), True)

    def test_the_least_index(self):
        self.check((3, 0), CHAIN, CHAIN + ENDS + (("some", 0, 0), ("no", 0, 0)), 4)
        self.check((3, 0), CHAIN, CHAIN + (("no", 0, 0), ("some", 0, 0)), 2)
        self.check((3, 0), CHAIN, (("all", 0, 2),) * 6 + (("all", 2, 0),), 6)

    def test_premises_of_no_sentence(self):
        for second in ((), CHAIN, NEVER, SEVEN):
            self.check((4, 1), (), second, 0 if second else None)
            self.check((4, 1), second, (), None)
        self.check((1, 0), (), (("all", 0, 0), ("as many", 0, 0)), None)
        self.check((1, 0), (), (("some not", 0, 0),), 0)
        self.assertEqual(proofs((2, 0), CHAIN[:1], ()), ())
        self.assertEqual(proofs((2, 0), NEVER, ()), ())
        self.assertIsNone(difference((2, 0), (), ()))

    def test_premises_of_seven_sentences(self):
        self.check((4, 1), SEVEN, SEVEN, None)
        self.check((4, 1), SEVEN, SEVEN[::-1], None)
        self.check((4, 1), SEVEN, (("fewer", 0, 3),) * 7, None)
        self.check((4, 1), SEVEN, SEVEN[:6] + (("all", 0, 3),), 6)
        self.check((4, 1), SEVEN[:6], SEVEN, 6)

    def test_premises_without_a_model(self):
        for signature, second in ((((2, 0)), (("all", 0, 1),) * 7), ((4, 1), SEVEN), ((2, 2), NEVER)):
            self.check(signature, NEVER, second, None)
            self.check(signature, NEVER, NEVER + second[:3], None)
        self.check((2, 0), (("all", 0, 1),), NEVER, 0)
        self.check((2, 0), (("no", 0, 1),), NEVER, 1)
        self.check((2, 0), (("some not", 0, 0),), (("fewer", 1, 1),), None)

    def test_with_verbs(self):
        sees = (verb("some", 0, True, 0, False, "all", 1), ("all", 2, 1))
        seen = verb("all", 2, True, 0, True, "some", 0)
        self.check((3, 1), sees, (seen, verb("some", 0, True, 0, False, "all", 2)), None)
        self.check((3, 1), sees, (seen, verb("all", 0, True, 0, False, "some", 2)), 1)

    def test_many(self):
        met = {True: 0, False: 0}
        for signature, first, second in compared(89, SIGNATURES, 40):
            index = first_not_entailed(signature, first, second)
            met[index is None] += len(second) > 1
            self.check(signature, first, second, index)
        self.assertGreater(min(met.values()), 100)

    def test_each_sentence_of_the_second_ones(self):
        for signature, first, second in compared(891, SIGNATURES, 20):
            each = all(is_consequence(signature, first, sentence) for sentence in second)
            self.assertIs(entails(signature, first, second), each)

    def test_small_models_agree(self):
        for signature in ((1, 0), (2, 0), (1, 1), (2, 1)):
            models = small_models(signature, 2)
            for _, first, second in compared(892, (signature,), 30, 3):
                if entails(signature, first, second):
                    for model in models:
                        self.assertLessEqual(is_model_of(model, first), is_model_of(model, second))

    def test_mixed_models_agree(self):
        stream = Stream(893)
        for signature, first, second in compared(894, SIGNATURES, 20):
            if entails(signature, first, second):
                for _ in range(5):
                    model = mixed_model(signature, stream)
                    self.assertLessEqual(is_model_of(model, first), is_model_of(model, second))


class Equivalent(unittest.TestCase):
    def test_each_entail_the_other_ones(self):
        met = {True: 0, False: 0}
        for signature, first, second in compared(895, SIGNATURES, 30, 4):
            for other in (second, first + second[:3], first[1:], pruned(signature, first)):
                both = first_not_entailed(signature, first, other) is None
                both = both and first_not_entailed(signature, other, first) is None
                met[both] += 1
                self.assertIs(are_equivalent(signature, first, other), both)
                self.assertIs(are_equivalent(signature, other, first), both)
        self.assertGreater(min(met.values()), 100)

    def test_ordinary(self):
        self.assertIs(are_equivalent((3, 0), CHAIN, CHAIN + ENDS), True)
        self.assertIs(are_equivalent((3, 0), CHAIN, ENDS), False)
        self.assertIs(are_equivalent((3, 0), ENDS, CHAIN), False)
        same = (("all", 0, 1), ("all", 1, 0))
        for x, y in ((0, 1), (1, 0)):
            self.assertIs(are_equivalent((2, 0), (("all", x, y), ("as many", x, y)), same), True)
            self.assertIs(are_equivalent((2, 0), (("all", x, y), ("as many", y, x)), same), False)
        self.assertIs(are_equivalent((2, 0), (), (("all", 0, 0),) * 7), True)
        self.assertIs(are_equivalent((2, 0), NEVER, (("some not", 0, 0),)), True)
        self.assertIs(are_equivalent((2, 0), NEVER, ()), False)

    def test_the_same_sentences_in_another_sequence_and_number(self):
        stream = Stream(96)
        for signature, first, _ in compared(961, SIGNATURES, 20):
            other = first[::-1]
            while len(other) < 7 and first:
                at = stream.below(len(other) + 1)
                other = other[:at] + (first[stream.below(len(first))],) + other[at:]
            self.assertIs(are_equivalent(signature, first, other), True)
            self.assertIs(are_equivalent(signature, other, tuple(dict.fromkeys(first))), True)

    def test_sentences_that_say_the_same(self):
        for signature, first, _ in compared(962, SIGNATURES, 10):
            told = tuple(told_form(signature, sentence) for sentence in first)
            self.assertIs(are_equivalent(signature, first, told), True)


class Further(unittest.TestCase):
    """Points 94 and 95."""

    def test_without_a_model_all_are_entailed(self):
        for signature, first, second in compared(94, SIGNATURES, 20):
            self.assertIs(entails(signature, first[:5] + (("fewer", 0, 0),), second), True)
            self.assertIs(entails(signature, first, ()), True)
            if not can_hold(signature, first):
                self.assertIs(entails(signature, first, second), True)

    def test_further_sentences_and_parts(self):
        stream, met = Stream(95), 0
        for signature, first, second in compared(951, SIGNATURES, 30, 6):
            if entails(signature, first, second):
                met += 1
                sentences = sentences_of(signature)
                further = sentences[stream.below(len(sentences))]
                self.assertIs(entails(signature, first + (further,), second), True)
                self.assertIs(entails(signature, (further,) + first, second), True)
                for at in range(len(second)):
                    self.assertIs(entails(signature, first, without(second, at)), True)
        self.assertGreater(met, 100)

    def test_what_entails_what_entails_third_ones(self):
        met = 0
        for signature, first, second in compared(952, SIGNATURES, 40, 5):
            if entails(signature, first, second):
                for third in (second[::-1], second[1:] + second[1:2], pruned(signature, second), (("some", 0, 0),)):
                    if entails(signature, second, third):
                        met += 1
                        self.assertIs(entails(signature, first, third), True)
        self.assertGreater(met, 100)


class Difference(unittest.TestCase):
    """Points 90 and 92."""

    def check(self, value, right=False, first=ENDS, second=CHAIN, signature=(3, 0)):
        self.assertIs(accepts_difference(signature, first, second, value), right, (first, second, value))

    def test_told(self):
        told = difference((3, 0), ENDS, CHAIN)
        self.assertEqual(told, (0, canonical_model((3, 0), ENDS + (("some not", 0, 1),))))
        told = difference((3, 0), CHAIN, CHAIN + (("some", 2, 2),))
        self.assertEqual(told, (2, canonical_model((3, 0), CHAIN + (("no", 2, 2),))))
        self.assertEqual(told, (2, NOBODY))

    def test_told_of_many(self):
        met = 0
        for signature, first, second in compared(92, SIGNATURES, 40):
            index = first_not_entailed(signature, first, second)
            if index is not None:
                met += 1
                model = canonical_of(signature, first + (negation_of(second[index]),))
                self.assertEqual(difference(signature, first, second), (index, model))
                self.assertIs(is_difference(first, second, (index, model)), True)
        self.assertGreater(met, 100)

    def test_of_the_interface(self):
        self.check((0, ONE_0_AND_2), True)
        self.check((1, ONE_0_AND_2))

    def test_any_model_does(self):
        other = (((7, (0, 2)), (1, (1,)), (3, ())), (), ())
        self.check((0, other), True)
        self.check((1, other), True)
        self.check((0, NOBODY))
        self.check((0, (((1, (0, 1, 2)),), (), ())))
        # No model of the first premises.
        self.check((0, (((1, (0,)),), (), ())))
        self.check((0, (((1, (0, 2)), (1, (0,))), (), ())))

    def test_not_only_the_least_index(self):
        second = (("some", 0, 0), ("some", 1, 1), ("all", 0, 0))
        self.check((0, NOBODY), True, (), second)
        self.check((1, NOBODY), True, (), second)
        self.check((2, NOBODY), False, (), second)

    def test_indexes(self):
        second = (("some", 0, 0), ("some", 1, 1))
        for index in (2, 3, 7, -1, -2, True, False, None, "0", (0,), [0], 10 ** 30):
            self.check((index, NOBODY), False, (), second)
            self.check((index, NOBODY), False, (), ())

    def test_second_premises_of_no_sentence(self):
        for value in VALUES + ((0, NOBODY), (None, NOBODY), (0, ONE_0_AND_2)):
            self.check(value, False, ENDS, ())

    def test_other_forms(self):
        for value in (
            [0, ONE_0_AND_2], (0, list(ONE_0_AND_2)), (ONE_0_AND_2, 0), (0,), (ONE_0_AND_2,), ONE_0_AND_2, 0,
            (0, ONE_0_AND_2, 0), (0, ONE_0_AND_2, ()), ((0, ONE_0_AND_2),), (0, None), (0, ONE_0_AND_2[0]),
            (0, ONE_0_AND_2[:2]), (0, ONE_0_AND_2 + ((),)), (0, (((True, (0, 2)),), (), ())),
            (0, (((1, (False, 2)),), (), ())), (0, (((1, [0, 2]),), (), ())), (0, ([(1, (0, 2))], (), ())),
            (0, (((1, (0, 2)),), ((),), ((),))), (0, (((1, (2, 0)),), (), ())), (0, (((0, (0, 2)),), (), ())),
            (0, (((1, (0, 2)),) * 41, (), ())),
        ):
            self.check(value)
        self.check((0, (((1, (0, 2)),) * 40, (), ())), True)

    def test_values_of_every_kind(self):
        for value in VALUES:
            self.check(value)
            self.check(value, False, (), (("all", 0, 0),))
            self.check((0, value), is_model((3, 0), value), (), (("some", 0, 0),))

    def test_as_counted(self):
        stream, met = Stream(90), {True: 0, False: 0}
        for signature, first, second in compared(901, SIGNATURES, 20, 3):
            for _ in range(6):
                model = mixed_model(signature, stream, 3)
                for index in range(len(second)):
                    right = is_difference(first, second, (index, model))
                    met[right] += 1
                    self.check((index, model), right, first, second, signature)
        self.assertGreater(min(met.values()), 100)


class Proofs(unittest.TestCase):
    """Point 91."""

    def check(self, value, right=False, first=CHAIN, second=ENDS, signature=(3, 0)):
        self.assertIs(accepts_proofs(signature, first, second, value), right, (first, second, value))

    def test_exactly_one_of_both_is_there(self):
        for signature, first, second in compared(91, SIGNATURES, 30):
            told, proved = difference(signature, first, second), proofs(signature, first, second)
            self.assertIs(told is None, proved is not None)
            if proved is None:
                self.check((), second == (), first, second, signature)
                self.check((((("clash",),),) * len(second)), False, first, second, signature)
            else:
                self.check(proved, True, first, second, signature)
                self.assertEqual(len(proved), len(second))
                for sentence, proof in zip(second, proved):
                    against = first + (negation(signature, sentence),)
                    self.assertIsNone(first_wrong(signature, against, proof))
                    self.assertIs(is_accepted(signature, against, proof), True)

    def test_told_of_the_interface(self):
        told = proofs((3, 0), CHAIN, ENDS)
        self.check(told, True)
        self.assertIsNone(proofs((3, 0), ENDS, CHAIN))

    def test_exchanged_left_out_or_put_in(self):
        told = proofs((3, 0), CHAIN, ENDS)
        # What is shown of all 0 is shown of as many, too, but each proof needs its own negation for the clash.
        for value in (
            told[::-1], told[:1], told[1:], (), told + told[:1], told + ((),), told[:1] * 2, told[1:] * 2, (told,),
            list(told), [list(proof) for proof in told], told[0], told[1],
        ):
            self.check(value)

    def test_a_line_left_out_or_put_in(self):
        told = proofs((3, 0), CHAIN, ENDS)
        for at, proof in enumerate(told):
            for line in range(len(proof)):
                self.check(with_item(told, at, without(proof, line)))
            longer = (("all", 2, 2),) * (120 - len(proof)) + proof
            self.check(with_item(told, at, longer), True)
            self.check(with_item(told, at, longer[:1] + longer))
            self.check(with_item(told, at, (("some", 0, 1),) + proof))
            self.check(with_item(told, at, (("all", 1, 0),) + proof))
            self.check(with_item(told, at, list(proof)))
            self.check(with_item(told, at, (list(proof[0]),) + proof[1:]))
            self.check(with_item(told, at, ()))
            self.check(with_item(told, at, None))
            self.check(with_item(told, at, ONE_0_AND_2))

    def test_any_accepted_proofs_do(self):
        first = (("all", 0, 1), ("all", 1, 2), ("all", 2, 1))
        one = (("all", 0, 1), ("all", 1, 2), ("all", 0, 2), ("clash",))
        two = (("all", 1, 2), ("all", 2, 2), ("all", 0, 1), ("all", 0, 2), ("all", 0, 2), ("clash",), ("clash",))
        for value in ((one, one), (one, two), (two, one), (two, two)):
            self.check(value, True, first, (("all", 0, 2),) * 2)
            self.check(value[:1], False, first, (("all", 0, 2),) * 2)
            self.check(value[:1], True, first, (("all", 0, 2),))

    def test_true_and_false_for_integers(self):
        self.check(((("all", 0, 0), ("clash",)),), True, (), (("all", 0, 0),))
        self.check(((("all", False, 0), ("clash",)),), False, (), (("all", 0, 0),))
        self.check(((("all", 0, False), ("clash",)),), False, (), (("all", 0, 0),))

    def test_second_premises_of_no_sentence(self):
        for value in VALUES:
            self.check(value, value == () and isinstance(value, tuple), CHAIN, ())
        self.check(((),), False, CHAIN, ())
        self.check(((("clash",),),), False, NEVER, ())

    def test_values_of_every_kind(self):
        for value in VALUES:
            self.check(value)
            self.check((value,), False, CHAIN, (("all", 0, 2),))
            self.check((value, value))
        self.check(((("clash",),),), False, CHAIN, (("some", 0, 0),))

    def test_a_clash_of_the_first_premises_alone(self):
        clash = (("both", 0, 1), ("clash",))
        self.check((clash,) * 7, True, NEVER, (("fewer", 2, 2),) * 7)
        self.check((clash,), False, NEVER[:1], (("fewer", 2, 2),))

    def test_proofs_of_other_premises(self):
        for signature, first, second in compared(911, ((2, 1), (3, 0)), 40, 3):
            proved = proofs(signature, first, second)
            if proved is not None:
                for one, other in ((first[1:], second), (second, first), (first, second[::-1]), ((), second)):
                    right = len(other) == len(proved) and all(
                        is_accepted(signature, one + (negation_of(sentence),), proof)
                        for sentence, proof in zip(other, proved))
                    self.check(proved, right, one, other, signature)


class Pruning(unittest.TestCase):
    """Point 93."""

    def check(self, signature, premises, found, left):
        self.assertEqual(needless(signature, premises), found)
        self.assertEqual(pruned(signature, premises), left)

    def test_ordinary(self):
        self.check((3, 0), CHAIN + ENDS, (2, 3), CHAIN)
        self.check((3, 0), ENDS + CHAIN, (0, 1), CHAIN)
        self.check((3, 0), CHAIN, (), CHAIN)
        self.check((3, 0), ENDS, (1,), ENDS[:1])
        self.check((2, 0), (("all", 0, 1), ("all", 0, 1)), (0, 1), (("all", 0, 1),))
        self.check((2, 0), (), (), ())
        self.check((2, 0), (("all", 0, 0),), (0,), ())
        self.check((2, 0), (("all", 0, 0),) * 7, (0, 1, 2, 3, 4, 5, 6), ())

    def test_the_last_one_of_those_that_are_needless_then(self):
        same = (("all", 0, 1), ("some", 0, 0), ("all", 0, 1), ("some", 0, 0))
        self.check((2, 0), same, (0, 1, 2, 3), same[:2])
        turned = (("no", 1, 0), ("no", 0, 1))
        self.check((2, 0), turned, (0, 1), turned[:1])
        # Either of the last two is needless only as long as the other one is there.
        ring = (("all", 0, 1), ("all", 1, 2), ("all", 2, 0), ("as many", 0, 2))
        self.check((3, 0), ring, (2, 3), ring[:3])
        three = (("all", 0, 1), ("as many", 0, 1), ("all", 1, 0))
        self.check((2, 0), three, (1, 2), three[:2])

    def test_premises_without_a_model(self):
        never = (("some not", 0, 0), ("all", 0, 1), ("some not", 1, 1))
        self.check((2, 0), never, (0, 1, 2), never[:1])
        self.check((2, 0), NEVER, (), NEVER)
        self.check((2, 0), NEVER + NEVER, (0, 1, 2, 3), NEVER)
        self.check((2, 0), (("all", 0, 1),) + NEVER, (0,), NEVER)

    def test_seven_sentences(self):
        self.check((4, 1), SEVEN, (), SEVEN)
        self.check((4, 1), SEVEN[:6] + (("fewer", 0, 3),), (6,), SEVEN[:6])

    def test_many(self):
        met = 0
        for signature, first, second in compared(93, SIGNATURES, 25):
            for premises in (first, second, first[:4] + second[:3]):
                left = pruned_by(signature, premises)
                met += left != premises
                self.check(signature, premises, needless_by(signature, premises), left)
        self.assertGreater(met, 200)

    def test_what_is_left(self):
        for signature, first, second in compared(931, SIGNATURES, 20):
            premises = first[:4] + second[:3]
            left = pruned(signature, premises)
            self.assertIs(are_equivalent(signature, premises, left), True)
            self.assertEqual(needless(signature, left), ())
            self.assertEqual(pruned(signature, left), left)
            rest = iter(premises)
            self.assertTrue(all(sentence in rest for sentence in left))

    def test_small_models_agree(self):
        for signature, premises in many_premises(932, ((1, 1), (2, 0)), 40):
            left = pruned(signature, premises[:7])
            for model in small_models(signature, 2):
                self.assertEqual(is_model_of(model, premises[:7]), is_model_of(model, left))


class Refusals(unittest.TestCase):
    signature = ("signature", (2, 1), WRONG_SIGNATURES)
    wrong = wrong_premises((2, 1)) + ((("all", 0, 0),) * 8, ENDS, ((("some", 0, 1),) * 7 + (None,)))
    seven = (("all", 0, 1),) * 7

    def test_of_two_premises(self):
        for function in (entails, are_equivalent, difference, proofs):
            for right in (self.seven, (), CHAIN[:1]):
                check_refusals(
                    self, function, self.signature, ("first", right, self.wrong), ("second", right, self.wrong))

    def test_of_the_judges(self):
        for function in (accepts_difference, accepts_proofs):
            for value in (None, (), (0, NOBODY)):
                check_refusals(
                    self, function, self.signature, ("first", self.seven, self.wrong),
                    ("second", (), self.wrong), ("value", value, ()))

    def test_of_pruning(self):
        for function in (needless, pruned):
            check_refusals(self, function, self.signature, ("premises", self.seven, self.wrong))

    def test_seven_and_eight(self):
        eight = SEVEN + (("all", 0, 0),)
        for function in (needless, pruned):
            self.assertIsInstance(function((4, 1), SEVEN), tuple)
            with self.assertRaises(BadValue) as caught:
                function((4, 1), eight)
            self.assertEqual(caught.exception.name, "premises")
        for function in (entails, are_equivalent, difference, proofs):
            function((4, 1), SEVEN, SEVEN)
            for arguments, name in (((eight, SEVEN), "first"), ((SEVEN, eight), "second"), ((eight, eight), "first")):
                with self.assertRaises(BadValue) as caught:
                    function((4, 1), *arguments)
                self.assertEqual(caught.exception.name, name)

    def test_models_of_the_told_difference_are_models(self):
        stream = Stream(97)
        for signature in SIGNATURES:
            first = mixed_premises(sentences_of(signature), stream, 7)
            told = difference(signature, first, (("some not", 0, 0),))
            if told is not None:
                self.assertIs(is_model(signature, told[1]), True)


if __name__ == "__main__":
    unittest.main()
