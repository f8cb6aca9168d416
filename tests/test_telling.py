"""Points 99 to 107: models told apart by sentences, theories, and unions of models."""

import unittest

from allsomeno.errors import BadValue, TooLarge
from allsomeno.models import count_with, holds, is_model, total_size
from allsomeno.sentences import is_sentence, negation
from allsomeno.telling import agree, agree_but_for_sizes, tells_apart, theory, told_sentence, union

from tests.checking import SIGNATURES, VALUES, WRONG_SIGNATURES, check_refusals, sentences_of, with_item
from tests.checking import wrong_sentences
from tests.reference import Stream, acts, homes_of, mixed_model, moved, small_models, truth
from tests.test_models import EMPTY, EXAMPLE, RIGHT, crowd, wrong_models

ONE, TWO = (((1, (0,)),), (), ()), (((2, (0,)),), (), ())
OTHER = (((1, (0,)), (2, (1,))), (), ())
SIZES = ("as many", "fewer")


def nobody(signature):
    """The model of the signature without groups."""
    return ((), ((),) * signature[1], ((),) * signature[1])


def telling(signature, first, second):
    """All sentences that tell the models apart, in order, counted from the individuals one by one."""
    return [one for one in sentences_of(signature) if truth(first, one) != truth(second, one)]


def near(model, stream):
    """The model with one thing changed."""
    groups, verbs, selves = model
    if groups == ():
        return model
    at, v = stream.below(len(groups)), stream.below(len(verbs)) if verbs else 0
    size, nouns = groups[at]
    choice = stream.below(4) if verbs else 0
    if choice == 1:
        return (groups, verbs, with_item(selves, v, turned(selves[v], at)))
    if choice > 1:
        row = turned(verbs[v][at], stream.below(len(groups)))
        return (groups, with_item(verbs, v, with_item(verbs[v], at, row)), selves)
    return (with_item(groups, at, (size % 3 + 1, nouns)), verbs, selves)


def turned(row, group):
    """The row with the group put in, or taken out."""
    return tuple(sorted(set(row) ^ {group}))


def parted(model, at):
    """The model with one individual of the group, of two or more, in a new group behind the others (point 105)."""
    groups, verbs, selves = model
    size, nouns = groups[at]
    new = len(groups)

    def row(old):
        # Who does it to the group does it to both; the group does it to the new one as it did to its other members.
        return old + (new,) if at in old else old

    told = [tuple(row(old) for old in rows) + (row(rows[at]),) for rows in verbs]
    return (
        with_item(groups, at, (size - 1, nouns)) + ((1, nouns),), tuple(told), tuple(row(old) for old in selves))


def pairs_of_models(seed, each):
    """Many signatures and pairs of models: some near to one another, and some that agree."""
    stream = Stream(seed)
    for signature in SIGNATURES:
        for at in range(each):
            first = mixed_model(signature, stream)
            if at % 3 == 0:
                yield signature, first, mixed_model(signature, stream)
            elif at % 3 == 1:
                yield signature, first, near(first, stream)
            else:
                order = sorted(range(len(first[0])), key=lambda _: stream.below(100))
                yield signature, first, moved(first, order)


class ToldSentence(unittest.TestCase):
    """Points 99 and 100."""

    def check(self, signature, first, second):
        found = telling(signature, first, second)
        others = [one for one in found if one[0] not in SIZES]
        for one, other in ((first, second), (second, first)):
            self.assertEqual(told_sentence(signature, one, other), found[0] if found else None)
            self.assertIs(agree(signature, one, other), found == [])
            self.assertIs(agree_but_for_sizes(signature, one, other), others == [])
        return found

    def test_of_point_107(self):
        self.assertEqual(self.check((1, 0), ONE, TWO), [])
        self.assertEqual(self.check((2, 0), ONE, TWO), [])
        self.assertEqual(self.check((2, 0), ONE, OTHER)[0], ("all", 1, 0))

    def test_models_without_groups(self):
        for signature in SIGNATURES:
            empty = nobody(signature)
            self.assertEqual(self.check(signature, empty, empty), [])
            alone = (((1, ()),), (((),),) * signature[1], ((),) * signature[1])
            self.assertEqual(self.check(signature, empty, alone), [])
            self.check(signature, empty, with_item(alone, 0, ((1, (0,)),)))
        self.assertEqual(told_sentence((1, 0), ONE, nobody((1, 0))), ("no", 0, 0))

    def test_by_sizes_alone(self):
        more = (((2, (0,)), (1, (1,))), (), ())
        same = (((1, (0,)), (1, (1,))), (), ())
        self.assertEqual(self.check((2, 0), same, more), [("as many", 1, 0), ("fewer", 1, 0)])
        self.assertIs(agree_but_for_sizes((2, 0), same, more), True)
        self.assertIs(agree((2, 0), same, more), False)
        thousand = (((1000, (0,)), (999, (1,))), (), ())
        self.assertIs(agree((2, 0), more, thousand), True)
        self.assertEqual(told_sentence((2, 0), (((1000, (0,)), (1000, (1,))), (), ()), thousand), ("as many", 1, 0))

    def test_each_form_can_be_the_told_one(self):
        met = set()
        for signature, first, second in pairs_of_models(99, 60):
            found = self.check(signature, first, second)
            met.add(found[0][0] if found else None)
        self.assertLessEqual({None, "all", "no", "as many", "verb", "self"}, met)

    def test_all_small_models(self):
        for signature, step in (((1, 0), 1), ((2, 0), 1), ((1, 1), 3)):
            models = small_models(signature, 2)[::step]
            for first in models:
                for second in models:
                    self.check(signature, first, second)

    def test_forty_groups(self):
        pair = (((2, (0,)),), (((0,),),), ((0,),))
        self.assertEqual(self.check((1, 1), crowd(40), pair), [])
        alone = with_item(crowd(40), 2, (tuple(range(39)),))
        self.assertEqual(told_sentence((1, 1), crowd(40), alone), ("verb", "all", 0, True, 0, True, "all", 0))
        self.check((1, 1), crowd(40), alone)
        stream = Stream(100)
        models = [mixed_model((2, 1), stream, 40, 1) for _ in range(4)]
        for first in models:
            self.check((2, 1), first, near(first, stream))

    def test_tells_apart(self):
        for signature, first, second in pairs_of_models(991, 9):
            found = telling(signature, first, second)
            for sentence in sentences_of(signature):
                self.assertIs(tells_apart(signature, first, second, sentence), sentence in found)

    def test_tells_apart_takes_every_value(self):
        found = telling((2, 0), ONE, OTHER)
        for value in VALUES + tuple(wrong_sentences((2, 0))):
            right = is_sentence((2, 0), value) and value in found
            self.assertIs(tells_apart((2, 0), ONE, OTHER, value), right, value)
        self.assertIs(tells_apart((2, 0), ONE, OTHER, ("some", 1, 1)), True)
        for value in (
            ["some", 1, 1], ("some", True, 1), ("some", 1, True), ("some", 1), ("some", 1, 1, 1), ("some", 2, 1),
            ("some", 1, 2), (("some", 1, 1),), ("verb", "some", 1, True, 0, False, "some", 1), ("some", 0, 0),
        ):
            self.assertIs(tells_apart((2, 0), ONE, OTHER, value), False, value)


class Theories(unittest.TestCase):
    """Point 101."""

    def test_counted_one_by_one(self):
        stream = Stream(101)
        for signature in SIGNATURES:
            for _ in range(8):
                model = mixed_model(signature, stream)
                told = theory(signature, model)
                self.assertIsInstance(told, list)
                self.assertEqual(told, [one for one in sentences_of(signature) if truth(model, one)])

    def test_ordinary(self):
        self.assertEqual(theory((1, 0), ONE), [("all", 0, 0), ("some", 0, 0), ("as many", 0, 0)])
        self.assertEqual(theory((1, 0), nobody((1, 0))), [("all", 0, 0), ("no", 0, 0), ("as many", 0, 0)])
        said_of_all = [one for one in sentences_of((2, 1)) if one[0] in ("all", "no", "as many") or one[1] == "all"]
        self.assertEqual(theory((2, 1), EMPTY), said_of_all)
        self.assertEqual(theory((1, 1), crowd(40)), theory((1, 1), crowd(2)))

    def test_exactly_one_of_each_sentence_and_its_negation(self):
        stream = Stream(1011)
        for signature in SIGNATURES:
            for _ in range(4):
                told = theory(signature, mixed_model(signature, stream))
                for sentence in sentences_of(signature):
                    self.assertNotEqual(sentence in told, negation(signature, sentence) in told)
                self.assertEqual(len(told), len(sentences_of(signature)) // 2)

    def test_models_agree_if_the_one_has_the_theory_of_the_other(self):
        met = {True: 0, False: 0}
        for signature, first, second in pairs_of_models(1012, 12):
            every = all(holds(signature, second, sentence) for sentence in theory(signature, first))
            met[every] += 1
            self.assertIs(agree(signature, first, second), every)
            self.assertIs(theory(signature, first) == theory(signature, second), every)
        self.assertGreater(min(met.values()), 20)

    def test_a_list_of_ones_own(self):
        before = theory((2, 1), EXAMPLE)
        theory((2, 1), EXAMPLE).clear()
        theory((2, 1), EXAMPLE).append(("some", 1, 1))
        self.assertEqual(theory((2, 1), EXAMPLE), before)
        self.assertEqual(told_sentence((2, 1), EXAMPLE, EXAMPLE), None)


class Unions(unittest.TestCase):
    """Point 102."""

    def test_as_it_is_written(self):
        self.assertEqual(union((2, 0), ONE, OTHER), (((1, (0,)), (1, (0,)), (2, (1,))), (), ()))
        self.assertEqual(union((2, 0), OTHER, ONE), (((1, (0,)), (2, (1,)), (1, (0,))), (), ()))
        pair = (((2, (0,)), (1, ())), (((0, 1), (0,)), ((), (1,))), ((1,), (0,)))
        alone = (((5, (0,)),), (((0,),), ((),)), ((), (0,)))
        told = union((1, 2), pair, alone)
        self.assertEqual(told[0], ((2, (0,)), (1, ()), (5, (0,))))
        self.assertEqual(told[1], (((0, 1), (0,), (2,)), ((), (1,), ())))
        self.assertEqual(told[2], ((1,), (0, 2)))
        told = union((1, 2), alone, pair)
        self.assertEqual(told[0], ((5, (0,)), (2, (0,)), (1, ())))
        self.assertEqual(told[1], (((0,), (1, 2), (1,)), ((), (), (2,))))
        self.assertEqual(told[2], ((2,), (0, 1)))

    def test_with_a_model_without_groups(self):
        stream = Stream(102)
        for signature in SIGNATURES:
            for _ in range(4):
                model = mixed_model(signature, stream)
                self.assertEqual(union(signature, model, nobody(signature)), model)
                self.assertEqual(union(signature, nobody(signature), model), model)

    def test_forty_groups_and_more(self):
        for many in (0, 1, 20, 39, 40):
            self.assertEqual(len(union((1, 1), crowd(many), crowd(40 - many))[0]), 40)
            self.assertIs(is_model((1, 1), union((1, 1), crowd(many), crowd(40 - many))), True)
            for more in (41 - many, 40):
                if more in range(41) and many + more > 40:
                    with self.assertRaises(TooLarge) as caught:
                        union((1, 1), crowd(many), crowd(more))
                    self.assertEqual(caught.exception.what, "groups")

    def test_individual_by_individual(self):
        stream = Stream(1021)
        for signature in SIGNATURES:
            for _ in range(6):
                first, second = mixed_model(signature, stream), mixed_model(signature, stream)
                both = union(signature, first, second)
                self.assertIs(is_model(signature, both), True)
                self.check(signature, first, second, both)

    def check(self, signature, first, second, both):
        homes, others, all_homes = homes_of(first), homes_of(second), homes_of(both)
        many = len(homes)
        self.assertEqual(len(all_homes), many + len(others))
        nouns = [first[0][home][1] for home in homes] + [second[0][home][1] for home in others]
        self.assertEqual([both[0][home][1] for home in all_homes], nouns)
        for v in range(signature[1]):
            for one in range(len(all_homes)):
                for other in range(len(all_homes)):
                    if one < many and other < many:
                        done = acts(first, homes, v, one, other)
                    elif one >= many and other >= many:
                        done = acts(second, others, v, one - many, other - many)
                    else:
                        done = False
                    self.assertIs(acts(both, all_homes, v, one, other), done)

    def test_what_holds_in_it(self):
        for signature, first, second in pairs_of_models(103, 9):
            both = union(signature, first, second)
            self.assertEqual(
                total_size(signature, both), total_size(signature, first) + total_size(signature, second))
            for noun in range(signature[0]):
                each = [count_with(signature, model, noun) for model in (first, second)]
                self.assertEqual(count_with(signature, both, noun), sum(each))
            for sentence in sentences_of(signature):
                self.check_sentence(sentence, both, (truth(first, sentence), truth(second, sentence)))

    def check_sentence(self, sentence, both, each):
        """Points 103 and 104: the sentence in a union, and in each of the two models."""
        told = truth(both, sentence)
        word = sentence[0]
        if word in ("all", "no") or (word == "self" and sentence[1] == "all"):
            self.assertEqual(told, all(each))
        elif word in ("some", "some not", "self"):
            self.assertEqual(told, any(each))
        elif word == "as many":
            self.assertLessEqual(all(each), told)
        elif word == "verb" and (sentence[3], sentence[6]) in ((True, "some"), (False, "all")):
            self.assertEqual(told, all(each) if sentence[1] == "all" else any(each))

    def test_as_many_in_a_union_alone(self):
        fewer, more = (((1, (0,)), (2, (1,))), (), ()), (((2, (0,)), (1, (1,))), (), ())
        both = union((2, 0), fewer, more)
        self.assertIs(holds((2, 0), fewer, ("as many", 0, 1)), False)
        self.assertIs(holds((2, 0), both, ("as many", 0, 1)), True)

    def test_with_itself(self):
        stream = Stream(105)
        for signature in SIGNATURES:
            for _ in range(8):
                model = mixed_model(signature, stream)
                found = telling(signature, model, union(signature, model, model))
                for sentence in found:
                    self.assertEqual(sentence[0], "verb")
                    self.assertIn((sentence[3], sentence[6]), ((True, "all"), (False, "some")))
                if signature[1] == 0:
                    self.assertIs(agree(signature, model, union(signature, model, model)), True)
        both = union((1, 1), crowd(1), crowd(1))
        self.assertEqual(told_sentence((1, 1), crowd(1), both), ("verb", "all", 0, True, 0, True, "all", 0))

    def test_of_the_interface(self):
        self.assertIs(agree_but_for_sizes((2, 0), OTHER, union((2, 0), OTHER, TWO)), True)
        self.assertIs(agree((2, 0), OTHER, union((2, 0), OTHER, TWO)), False)


class WrittenOtherwise(unittest.TestCase):
    """Point 105."""

    def test_groups_in_another_sequence(self):
        stream = Stream(1051)
        for signature in SIGNATURES:
            for _ in range(8):
                model = mixed_model(signature, stream)
                order = sorted(range(len(model[0])), key=lambda _: stream.below(100))
                self.assertIs(agree(signature, model, moved(model, order)), True)
                self.assertIs(agree_but_for_sizes(signature, moved(model, order), model), True)

    def test_a_group_parted(self):
        stream, met = Stream(1052), 0
        for signature in SIGNATURES:
            for _ in range(10):
                model = mixed_model(signature, stream)
                for at, (size, _) in enumerate(model[0]):
                    if size > 1:
                        met += 1
                        other = parted(model, at)
                        self.assertIs(is_model(signature, other), True)
                        self.assertIs(agree(signature, model, other), True)
                        self.assertEqual(theory(signature, model), theory(signature, other))
        self.assertGreater(met, 100)

    def test_parted_otherwise_they_are_told_apart(self):
        pair, alone = (((2, (0,)),), (((0,),),), ((),)), (((1, (0,)), (1, (0,))), (((), ()),), ((),))
        self.assertEqual(parted(pair, 0)[1], (((0, 1), (0, 1)),))
        self.assertEqual(told_sentence((1, 1), pair, alone), ("verb", "all", 0, True, 0, True, "some", 0))
        self.assertIs(agree((1, 1), pair, with_item(alone, 1, (((1,), (0,)),))), True)


class Refusals(unittest.TestCase):
    signature = ("signature", (2, 1), WRONG_SIGNATURES)
    first = ("first", RIGHT, wrong_models())
    second = ("second", EXAMPLE, wrong_models())

    def test_of_two_models(self):
        for function in (told_sentence, agree, agree_but_for_sizes, union):
            check_refusals(self, function, self.signature, self.first, self.second)

    def test_of_tells_apart(self):
        for value in (None, ("some", 0, 1)):
            check_refusals(self, tells_apart, self.signature, self.first, self.second, ("value", value, ()))

    def test_of_theory(self):
        check_refusals(self, theory, self.signature, ("model", RIGHT, wrong_models()))

    def test_models_of_another_signature(self):
        wrong = (((((1, (1,)),), (), ())), RIGHT, crowd(1))
        for function in (told_sentence, agree, agree_but_for_sizes, union):
            check_refusals(self, function, ("signature", (1, 0), ()), ("first", ONE, wrong), ("second", TWO, wrong))

    def test_wrong_arguments_come_before_what_is_too_large(self):
        forty = crowd(40)
        for arguments, name in (
            (((1, 3), forty, forty), "signature"), (((1, 1), crowd(41), forty), "first"),
            (((1, 1), forty, crowd(41)), "second"), (((1, 1), forty, None), "second"),
        ):
            with self.assertRaises(BadValue) as caught:
                union(*arguments)
            self.assertEqual(caught.exception.name, name)


if __name__ == "__main__":
    unittest.main()
