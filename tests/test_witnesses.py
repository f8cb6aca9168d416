"""Points 24 to 27, 29 and 30: witness groups, and models expanded, restricted, tidied and put in another order."""

import unittest
from itertools import permutations

from allsomeno.errors import BadValue, NotPossible, TooLarge
from allsomeno.models import holds, is_model, total_size
from allsomeno.sentences import negation
from allsomeno.witnesses import expanded, first_witness, is_witness, restricted, tidied

from tests.checking import SIGNATURES, WRONG_SIGNATURES, check_refusals, sentences_of
from tests.reference import Stream, holds_of, homes_of, mixed_model, moved, part_of, truth
from tests.test_models import EMPTY, EXAMPLE, RIGHT, WRONG_ROWS, crowd, wrong_models

WRONG_SENTENCES = (None, True, (), ("all", 0), ("all", 0, 2), ("all", True, 0), ["all", 0, 1], ("as many", 0, 2))


def says_some(sentence):
    return sentence[0] in ("some", "some not") or sentence[1] == "some"


def witness_groups(signature, model, sentence):
    """The witness groups, looked up for the individuals of each group, one by one."""
    sought = sentence if says_some(sentence) else negation(signature, sentence)
    homes, found = homes_of(model), []
    for group, (size, nouns) in enumerate(model[0]):
        if sought[0] in ("verb", "self"):
            members = [one for one in range(len(homes)) if homes[one] == group]
            fits = [holds_of(model, homes, sought, one) for one in members]
            assert len(set(fits)) == 1, "all of one group are alike (point 22)"
            fits = fits[0] and sought[2] in nouns
        else:
            fits = sought[1] in nouns and (sought[2] in nouns) == (sought[0] == "some")
        if fits:
            found.append(group)
    return found


class Witnesses(unittest.TestCase):
    def check(self, signature, model):
        for sentence in sentences_of(signature):
            if sentence[0] in ("as many", "fewer"):
                continue
            groups = witness_groups(signature, model, sentence)
            with self.subTest(model=model, sentence=sentence):
                self.assertEqual(first_witness(signature, model, sentence), groups[0] if groups else None)
                for group in range(-1, len(model[0]) + 1):
                    self.assertIs(is_witness(signature, model, sentence, group), group in groups)
                self.assertEqual(truth(model, sentence), says_some(sentence) == bool(groups))

    def test_in_mixed_models(self):
        stream = Stream(24)
        for signature in SIGNATURES:
            for _ in range(4):
                self.check(signature, mixed_model(signature, stream))

    def test_without_groups(self):
        self.check((2, 1), EMPTY)

    def test_every_value_is_valid(self):
        values = (None, True, False, "0", "", (0,), [0], (), 2, 40, -1, (0, 1))
        for value in values:
            self.assertIs(is_witness((2, 1), EXAMPLE, ("some", 0, 0), value), False, value)
        self.assertIs(is_witness((2, 1), EXAMPLE, ("some", 0, 0), 1), True)

    def test_of_all_and_no_those_of_the_negation(self):
        self.assertEqual(first_witness((2, 1), EXAMPLE, ("all", 0, 1)), 1)
        self.assertEqual(first_witness((2, 1), EXAMPLE, ("some not", 0, 1)), 1)
        self.assertEqual(first_witness((2, 1), EXAMPLE, ("no", 0, 1)), 0)
        self.assertIsNone(first_witness((2, 1), EXAMPLE, ("all", 1, 0)))
        self.assertEqual(first_witness((2, 1), EXAMPLE, ("self", "all", 0, True, 0)), 0)
        self.assertIsNone(first_witness((2, 1), EXAMPLE, ("self", "all", 0, False, 0)))


class Expanded(unittest.TestCase):
    def test_ordinary(self):
        model = (((2, (0,)), (1, (1,))), (((0, 1), (1,)),), ((1,),))
        groups = ((1, (0,)), (1, (0,)), (1, (1,)))
        self.assertEqual(expanded((2, 1), model), (groups, (((1, 2), (0, 2), ()),), ((2,),)))

    def test_a_group_of_one_leaves_its_own_row(self):
        self.assertEqual(expanded((1, 1), crowd(1)), (((1, (0,)),), (((),),), ((0,),)))

    def test_without_groups_and_without_verbs(self):
        self.assertEqual(expanded((2, 1), EMPTY), EMPTY)
        self.assertEqual(expanded((1, 0), (((3, (0,)),), (), ())), (((1, (0,)),) * 3, (), ()))

    def test_forty_individuals_and_more(self):
        self.assertEqual(len(expanded((1, 1), crowd(20, 2))[0]), 40)
        self.assertEqual(len(expanded((1, 1), crowd(40, 1))[0]), 40)
        self.assertEqual(len(expanded((1, 0), (((40, ()),), (), ()))[0]), 40)
        for many in (((41, ()),), ((40, ()), (1, (0,))), ((1000, ()),) * 40):
            with self.assertRaises(TooLarge) as caught:
                expanded((1, 0), (many, (), ()))
            self.assertEqual(caught.exception.what, "model")

    def test_each_individual_is_what_it_was(self):
        stream = Stream(25)
        for signature in SIGNATURES:
            for _ in range(10):
                model = mixed_model(signature, stream)
                homes, told = homes_of(model), expanded(signature, model)
                self.assertIs(is_model(signature, told), True)
                self.assertEqual(told[0], tuple((1, model[0][home][1]) for home in homes))
                for verb in range(signature[1]):
                    for one, home in enumerate(homes):
                        row = [at for at, other in enumerate(homes) if at != one and other in model[1][verb][home]]
                        self.assertEqual(told[1][verb][one], tuple(row))
                        self.assertEqual(one in told[2][verb], home in model[2][verb])


class Restricted(unittest.TestCase):
    def test_ordinary(self):
        self.assertEqual(restricted((2, 1), RIGHT, (1, 2)), (((2, (0,)), (3, ())), (((0, 1), ()),), ((1,),)))
        self.assertEqual(restricted((2, 1), RIGHT, (0, 2)), (((1, (0, 1)), (3, ())), (((), ()),), ((0, 1),)))

    def test_to_all_and_to_none(self):
        self.assertEqual(restricted((2, 1), RIGHT, (0, 1, 2)), RIGHT)
        self.assertEqual(restricted((2, 1), RIGHT, ()), EMPTY)
        self.assertEqual(restricted((2, 1), EMPTY, ()), EMPTY)

    def test_without_verbs(self):
        self.assertEqual(restricted((1, 0), (((3, (0,)), (1, ())), (), ()), (1,)), (((1, ()),), (), ()))

    def test_a_group_of_one_stays_in_its_own_row(self):
        model = (((1, ()), (1, (0,))), (((0,), (0, 1)),), ((1,),))
        self.assertEqual(restricted((1, 1), model, (1,)), (((1, (0,)),), (((0,),),), ((0,),)))

    def test_what_they_do_to_one_another_stays(self):
        stream = Stream(26)
        for _ in range(40):
            model = mixed_model((3, 2), stream)
            many = len(model[0])
            for groups in (part_of(many, rank) for rank in range(2 ** many)):
                told = restricted((3, 2), model, groups)
                self.assertIs(is_model((3, 2), told), True)
                self.assertEqual(told[0], tuple(model[0][group] for group in groups))
                for verb in range(2):
                    for at, group in enumerate(groups):
                        kept = [other for other, old in enumerate(groups) if old in model[1][verb][group]]
                        self.assertEqual(told[1][verb][at], tuple(kept))
                        self.assertEqual(at in told[2][verb], group in model[2][verb])

    def test_what_still_holds(self):
        stream, signature = Stream(27), (2, 1)
        for _ in range(30):
            model = mixed_model(signature, stream)
            for groups in (part_of(len(model[0]), rank) for rank in range(2 ** len(model[0]))):
                told = restricted(signature, model, groups)
                for sentence in sentences_of(signature):
                    both_all = sentence[0] == "verb" and sentence[1] == "all" and sentence[6] == "all"
                    if sentence[0] in ("all", "no") or both_all or sentence[:2] == ("self", "all"):
                        if holds(signature, model, sentence):
                            self.assertIs(holds(signature, told, sentence), True)


class Tidied(unittest.TestCase):
    def test_only_groups_of_one_leave_their_own_row(self):
        model = (((1, (0,)), (2, (0,)), (1, ())), (((0, 1), (0, 1, 2), (0,)),), ((0, 1),))
        tidy = (((1, (0,)), (2, (0,)), (1, ())), (((1,), (0, 1, 2), (0,)),), ((0, 1),))
        self.assertEqual(tidied((1, 1), model), tidy)
        self.assertEqual(tidied((1, 1), tidy), tidy)

    def test_each_verb(self):
        model = (((1, ()),), (((0,),), ((),)), ((), (0,)))
        self.assertEqual(tidied((1, 2), model), (((1, ()),), (((),), ((),)), ((), (0,))))

    def test_without_groups_and_without_verbs(self):
        self.assertEqual(tidied((2, 1), EMPTY), EMPTY)
        self.assertEqual(tidied((1, 0), (((1, ()),), (), ())), (((1, ()),), (), ()))

    def test_forty_groups_of_one(self):
        told = tidied((1, 1), crowd(40))
        self.assertEqual(told[1][0], tuple(tuple(at for at in range(40) if at != own) for own in range(40)))
        self.assertEqual(tidied((1, 1), crowd(40, 2)), crowd(40, 2))


class TheSameHolds(unittest.TestCase):
    def check(self, signature, model, orders):
        others = [expanded(signature, model), tidied(signature, model)] + [moved(model, order) for order in orders]
        for other in others:
            self.assertIs(is_model(signature, other), True)
            self.assertEqual(total_size(signature, other), total_size(signature, model))
        for sentence in sentences_of(signature):
            right = truth(model, sentence)
            self.assertIs(holds(signature, model, sentence), right)
            for other in others:
                with self.subTest(model=model, other=other, sentence=sentence):
                    self.assertIs(truth(other, sentence), right)
                    self.assertIs(holds(signature, other, sentence), right)

    def test_expanded_tidied_and_in_another_order(self):
        stream = Stream(29)
        for signature in SIGNATURES:
            for _ in range(3):
                model = mixed_model(signature, stream)
                many = len(model[0])
                backward, turned = tuple(range(many))[::-1], tuple(range(many))[1:] + tuple(range(many))[:1]
                self.check(signature, model, (backward, turned))

    def test_in_every_order(self):
        stream = Stream(30)
        for _ in range(6):
            model = mixed_model((2, 1), stream, 3, 2)
            self.check((2, 1), model, permutations(range(len(model[0]))))


class Refusals(unittest.TestCase):
    signature = ("signature", (2, 1), WRONG_SIGNATURES)
    model = ("model", RIGHT, wrong_models())
    sentence = ("sentence", ("all", 0, 1), WRONG_SENTENCES)

    def test_first_witness_and_is_witness(self):
        check_refusals(self, first_witness, self.signature, self.model, self.sentence)
        check_refusals(self, is_witness, self.signature, self.model, self.sentence, ("value", 0, ()))

    def test_sentences_that_compare_sizes(self):
        for word in ("as many", "fewer"):
            for function, behind in ((first_witness, ()), (is_witness, (0,)), (is_witness, (None,))):
                for model in (EXAMPLE, EMPTY):
                    with self.assertRaises(NotPossible) as caught:
                        function((2, 1), model, (word, 0, 1), *behind)
                    self.assertEqual(caught.exception.why, "numbers")

    def test_wrong_arguments_come_before_what_is_not_possible(self):
        for function, behind in ((first_witness, ()), (is_witness, (0,))):
            for arguments, name in (
                (((2, 3), EXAMPLE, ("as many", 0, 1)), "signature"),
                (((2, 1), None, ("as many", 0, 1)), "model"),
                (((2, 1), EXAMPLE, ("as many", 0, 2)), "sentence"),
            ):
                with self.assertRaises(BadValue) as caught:
                    function(*arguments, *behind)
                self.assertEqual(caught.exception.name, name)

    def test_expanded_and_tidied(self):
        check_refusals(self, expanded, self.signature, self.model)
        check_refusals(self, tidied, self.signature, self.model)

    def test_wrong_arguments_come_before_what_is_too_large(self):
        for signature, name in (((1, 3), "signature"), ((1, 1), "model")):
            with self.assertRaises(BadValue) as caught:
                expanded(signature, (((1000, ()),), (), ()))
            self.assertEqual(caught.exception.name, name)

    def test_restricted(self):
        check_refusals(self, restricted, self.signature, self.model, ("groups", (0, 2), WRONG_ROWS))
        check_refusals(
            self, restricted, ("signature", (2, 1), ()), ("model", EMPTY, ()), ("groups", (), ((0,), [], None)))


if __name__ == "__main__":
    unittest.main()
