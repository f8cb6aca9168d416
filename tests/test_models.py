"""Points 5, 6, 17, 20 to 23, 28 and 30: how models are written, and what holds in them."""

import unittest

from allsomeno.models import count_with, first_false, holds, is_model, total_size
from allsomeno.sentences import is_sentence

from tests.checking import SIGNATURES, WRONG_INTEGERS, WRONG_SIGNATURES, check_refusals
from tests.checking import sentences_of, wrong_premises, wrong_sentences
from tests.reference import Stream, homes_of, mixed_model, small_models, truth

EXAMPLE = (((1, (0, 1)), (1, (0,))), (((1,), ()),), ((),))
GROUPS = ((1, (0, 1)), (2, (0,)), (3, ()))
ROWS = ((1,), (0, 1, 2), ())
RIGHT = (GROUPS, (ROWS,), ((0, 2),))
EMPTY = ((), ((),), ((),))
WRONG_ROWS = (
    None, 0, True, "1", [0], (0, 0), (1, 0), (3,), (-1,), (True,), (0, True), (False,), (None,), ("0",), ((0,),),
    (0, 1, 2, 3), ([0],),
)


def crowd(many, size=1):
    """A model of (1, 1) with so many groups, each of so many individuals, all of whom do it to all others."""
    everyone = tuple(range(many))
    return (((size, (0,)),) * many, ((everyone,) * many,), (everyone,))


def wrong_models():
    """Values that are no models of (2, 1), each with one thing wrong."""
    found = [
        None, True, 0, "", (), (GROUPS,), RIGHT[:2], RIGHT + ((),), list(RIGHT), (RIGHT,), (GROUPS, (ROWS,), None),
        (None, (ROWS,), ((),)), (GROUPS, None, ((),)), (list(GROUPS), (ROWS,), ((),)),
    ]
    for group in (
        None, 1, True, (), (1,), (1, (0,), ()), [1, (0,)], (0, (0,)), (1001, (0,)), (-1, ()), (True, ()), (None, ()),
        ("1", ()), (1, None), (1, 0), (1, [0]), (1, (0, 0)), (1, (1, 0)), (1, (2,)), (1, (-1,)), (1, (True,)),
        (1, (0, True)), (1, (False,)), (1, ("0",)), (1, ((0,),)), ((1,), ()), (1, (0, 1, 2)),
    ):
        for at in range(3):
            found.append((GROUPS[:at] + (group,) + GROUPS[at + 1:], (ROWS,), ((),)))
    for row in WRONG_ROWS:
        for at in range(3):
            found.append((GROUPS, (ROWS[:at] + (row,) + ROWS[at + 1:],), ((),)))
        found.append((GROUPS, (ROWS,), (row,)))
    for rows in (None, (), ROWS[:2], ROWS + ((),), list(ROWS), 0, True, "abc"):
        found.append((GROUPS, (rows,), ((),)))
    for verbs in ((), (ROWS, ROWS), [ROWS], ROWS, 0, True):
        found.append((GROUPS, verbs, ((),)))
    for selves in ((), ((), ()), [()], (0,), 0, True):
        found.append((GROUPS, (ROWS,), selves))
    return found


class IsModel(unittest.TestCase):
    def test_right_ones(self):
        self.assertIs(is_model((2, 1), RIGHT), True)
        self.assertIs(is_model((2, 1), EXAMPLE), True)
        self.assertIs(is_model((2, 1), EMPTY), True)
        self.assertIs(is_model((3, 1), RIGHT), True)
        self.assertIs(is_model((4, 2), (GROUPS, (ROWS, ROWS), ((), (1,)))), True)

    def test_wrong_ones(self):
        for wrong in wrong_models():
            self.assertIs(is_model((2, 1), wrong), False, wrong)

    def test_number_of_verbs(self):
        for verbs in range(3):
            for other in range(3):
                model = (GROUPS, (ROWS,) * verbs, ((),) * verbs)
                self.assertIs(is_model((2, other), model), verbs == other)
            self.assertIs(is_model((2, verbs), ((), ((),) * verbs, ((),) * verbs)), True)

    def test_a_table_of_no_groups_has_no_rows(self):
        self.assertIs(is_model((2, 1), ((), (((),),), ((),))), False)
        self.assertIs(is_model((2, 1), ((), ((),), ((0,),))), False)

    def test_number_of_groups(self):
        self.assertIs(is_model((1, 1), crowd(40)), True)
        self.assertIs(is_model((1, 1), crowd(41)), False)
        self.assertIs(is_model((1, 0), (((1, ()),) * 40, (), ())), True)
        self.assertIs(is_model((1, 0), (((1, ()),) * 41, (), ())), False)

    def test_sizes(self):
        for size, right in ((0, False), (1, True), (1000, True), (1001, False)):
            self.assertIs(is_model((1, 0), (((size, (0,)),), (), ())), right)

    def test_nouns_of_a_group(self):
        for nouns in range(1, 5):
            self.assertIs(is_model((nouns, 0), (((1, tuple(range(nouns))),), (), ())), True)
            self.assertIs(is_model((nouns, 0), (((1, tuple(range(nouns + 1))),), (), ())), False)

    def test_a_group_of_one_in_its_own_row(self):
        self.assertIs(is_model((1, 1), crowd(1)), True)

    def test_mixed_models(self):
        stream = Stream(3)
        for signature in SIGNATURES:
            for _ in range(20):
                self.assertIs(is_model(signature, mixed_model(signature, stream)), True)


class Holds(unittest.TestCase):
    def check(self, signature, models):
        for model in models:
            for sentence in sentences_of(signature):
                with self.subTest(model=model, sentence=sentence):
                    self.assertIs(holds(signature, model, sentence), truth(model, sentence))

    def test_in_all_small_models(self):
        self.check((1, 1), small_models((1, 1), 2))
        self.check((2, 0), small_models((2, 0), 3))
        self.check((2, 1), small_models((2, 1), 2)[::3])

    def test_in_mixed_models(self):
        stream = Stream(1)
        for signature in SIGNATURES:
            self.check(signature, [mixed_model(signature, stream) for _ in range(6)])

    def test_in_larger_models(self):
        stream = Stream(2)
        self.check((2, 1), [mixed_model((2, 1), stream, 12, 4) for _ in range(10)])

    def test_group_of_one_in_its_own_row_does_nothing_by_it(self):
        alone = (((1, (0,)),), (((0,),),), ((),))
        pair = (((2, (0,)),), (((0,),),), ((),))
        does = ("verb", "some", 0, True, 0, False, "some", 0)
        self.assertIs(holds((1, 1), alone, does), False)
        self.assertIs(holds((1, 1), pair, does), True)
        self.assertIs(holds((1, 1), pair, ("self", "some", 0, True, 0)), False)

    def test_an_individual_itself_is_included(self):
        loving = (((1, (0,)),), (((),),), ((0,),))
        self.assertIs(holds((1, 1), loving, ("verb", "all", 0, True, 0, False, "all", 0)), True)
        self.assertIs(holds((1, 1), loving, ("verb", "some", 0, True, 0, True, "some", 0)), True)
        self.assertIs(holds((1, 1), loving, ("self", "all", 0, True, 0)), True)
        others = (((2, (0,)),), (((0,),),), ((),))
        self.assertIs(holds((1, 1), others, ("verb", "all", 0, True, 0, False, "all", 0)), False)
        self.assertIs(holds((1, 1), others, ("verb", "some", 0, False, 0, False, "some", 0)), True)

    def test_q_has_the_wider_scope(self):
        each_the_other = (((1, (0,)), (1, (0,))), (((1,), (0,)),), ((),))
        self.assertIs(holds((1, 1), each_the_other, ("verb", "all", 0, True, 0, False, "some", 0)), True)
        self.assertIs(holds((1, 1), each_the_other, ("verb", "some", 0, True, 0, True, "all", 0)), False)

    def test_some_does_it_to_none(self):
        told = ("verb", "some", 0, False, 0, False, "all", 0)
        self.assertIs(holds((1, 1), (((1, (0,)), (1, (0,))), (((1,), ()),), ((),)), told), True)
        self.assertIs(holds((1, 1), (((1, (0,)), (1, (0,))), (((1,), (0,)),), ((),)), told), False)

    def test_model_without_groups(self):
        for signature in SIGNATURES:
            empty = ((), ((),) * signature[1], ((),) * signature[1])
            for sentence in sentences_of(signature):
                said_of_all = sentence[0] in ("all", "no", "as many") or sentence[1] == "all"
                self.assertIs(holds(signature, empty, sentence), said_of_all, sentence)

    def test_where_no_individual_has_x(self):
        model = (((1, (1,)),), (((),),), ((),))
        for sentence in sentences_of((2, 1)):
            if sentence[0] in ("verb", "self") and sentence[2] == 0:
                self.assertIs(holds((2, 1), model, sentence), sentence[1] == "all")

    def test_greatest_sizes(self):
        model = (((1000, (0,)), (999, (1,)), (1, (1, 2))), (), ())
        self.assertIs(holds((3, 0), model, ("as many", 0, 1)), True)
        self.assertIs(holds((3, 0), model, ("fewer", 0, 1)), False)
        self.assertIs(holds((3, 0), model, ("fewer", 2, 0)), True)

    def test_more_nouns_and_verbs_make_no_difference(self):
        stream = Stream(17)
        for _ in range(12):
            groups, verbs, selves = mixed_model((4, 2), stream)
            for nouns, many in SIGNATURES:
                fewer = tuple((size, tuple(x for x in has if x < nouns)) for size, has in groups)
                model = (fewer, verbs[:many], selves[:many])
                for sentence in sentences_of((4, 2))[::7]:
                    if is_sentence((nouns, many), sentence):
                        self.assertEqual(
                            holds((nouns, many), model, sentence), holds((4, 2), (groups, verbs, selves), sentence))


class FirstFalse(unittest.TestCase):
    def test_no_premises_all_hold(self):
        self.assertIsNone(first_false((2, 1), EXAMPLE, ()))

    def test_the_first_one_is_told(self):
        true, false = ("all", 1, 0), ("as many", 1, 0)
        self.assertEqual(first_false((2, 1), EXAMPLE, (true, false)), 1)
        self.assertEqual(first_false((2, 1), EXAMPLE, (false, false)), 0)
        self.assertEqual(first_false((2, 1), EXAMPLE, (true,) * 7 + (false,)), 7)
        self.assertIsNone(first_false((2, 1), EXAMPLE, (true,) * 8))

    def test_as_each_sentence_holds(self):
        stream, sentences = Stream(9), sentences_of((2, 1))
        for _ in range(60):
            model = mixed_model((2, 1), stream)
            premises = tuple(sentences[stream.below(96)] for _ in range(1 + stream.below(8)))
            wrong = [index for index, one in enumerate(premises) if not truth(model, one)]
            self.assertEqual(first_false((2, 1), model, premises), wrong[0] if wrong else None)


class Sizes(unittest.TestCase):
    def test_ordinary(self):
        self.assertEqual(count_with((2, 1), RIGHT, 0), 3)
        self.assertEqual(count_with((2, 1), RIGHT, 1), 1)
        self.assertEqual(total_size((2, 1), RIGHT), 6)

    def test_none_and_many(self):
        self.assertEqual((count_with((2, 1), EMPTY, 1), total_size((2, 1), EMPTY)), (0, 0))
        self.assertEqual((count_with((1, 1), crowd(40, 1000), 0), total_size((1, 1), crowd(40, 1000))), (40000, 40000))

    def test_counted_one_by_one(self):
        stream = Stream(4)
        for _ in range(40):
            model = mixed_model((3, 1), stream)
            homes = homes_of(model)
            self.assertEqual(total_size((3, 1), model), len(homes))
            for noun in range(3):
                self.assertEqual(
                    count_with((3, 1), model, noun), len([home for home in homes if noun in model[0][home][1]]))


class Refusals(unittest.TestCase):
    signature = ("signature", (2, 1), WRONG_SIGNATURES)
    model = ("model", RIGHT, wrong_models())

    def test_holds(self):
        wrong = wrong_sentences((2, 1))[::25] + [None, ("all", 0, True), ("all", 0, 2)]
        check_refusals(self, holds, self.signature, self.model, ("sentence", ("all", 0, 1), wrong))

    def test_first_false(self):
        premises = ("premises", (("all", 0, 1),) * 8, wrong_premises((2, 1)))
        check_refusals(self, first_false, self.signature, self.model, premises)

    def test_count_with(self):
        check_refusals(self, count_with, self.signature, self.model, ("noun", 1, WRONG_INTEGERS + (2, 3)))

    def test_total_size(self):
        check_refusals(self, total_size, self.signature, self.model)

    def test_a_model_of_another_signature(self):
        wrong = ((((1, (1,)),), (), ()), RIGHT, crowd(1))
        for function in (total_size,):
            check_refusals(self, function, ("signature", (1, 0), ()), ("model", (((1, (0,)),), (), ()), wrong))


class Example(unittest.TestCase):
    def test_of_point_31(self):
        some, each = ("verb", "some", 0, True, 0, False, "some", 0), ("verb", "all", 1, True, 0, False, "some", 0)
        everyone = ("verb", "some", 0, True, 0, False, "all", 0)
        self.assertIs(is_model((2, 1), EXAMPLE), True)
        self.assertEqual([holds((2, 1), EXAMPLE, one) for one in (some, each, everyone)], [True, True, False])
        self.assertEqual((count_with((2, 1), EXAMPLE, 0), count_with((2, 1), EXAMPLE, 1)), (2, 1))


if __name__ == "__main__":
    unittest.main()
