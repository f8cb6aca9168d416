"""Points 78 to 81 and 84 to 88: reasons, necessary and unused premises, and the removal."""

import unittest

from allsomeno.reasons import is_enough, necessary, reasons, removal, unused

from tests.cases import enough_by, grounds, verb
from tests.checking import SIGNATURES, WRONG_SIGNATURES, check_refusals, sentences_of, wrong_premises, wrong_sentences
from tests.reference import Stream, is_model_of, mixed_premises, small_models, truth
from tests.second import reasons_by, removal_by

FOUR = (("all", 0, 1), ("all", 1, 2), ("no", 2, 0), ("some", 0, 1))
TWO = (("some", 0, 1), ("some", 0, 2))
EIGHT = (
    ("all", 0, 1), ("all", 1, 3), ("all", 0, 2), ("all", 2, 3), ("as many", 0, 3), ("fewer", 3, 2), ("some", 0, 0),
    ("all", 0, 1),
)


class Told(unittest.TestCase):
    def check(self, signature, premises, claim, found, needed, needless, first):
        told = reasons(signature, premises, claim)
        self.assertIsInstance(told, list)
        self.assertEqual(told, found)
        self.assertIs(is_enough(signature, premises, claim), found != [])
        self.assertEqual(necessary(signature, premises, claim), needed)
        self.assertEqual(unused(signature, premises, claim), needless)
        self.assertEqual(removal(signature, premises, claim), first)

    def test_of_point_88(self):
        self.check((3, 0), FOUR, None, [(1, 2, 3)], (1, 2, 3), (0,), (1,))
        self.check((3, 0), FOUR, ("all", 0, 2), [(0, 1), (1, 2, 3)], (1,), (), (1,))

    def test_two_reasons_apart(self):
        self.check((3, 0), TWO, ("some", 0, 0), [(0,), (1,)], (), (), (0, 1))

    def test_the_empty_part(self):
        self.check((3, 0), TWO, ("all", 0, 0), [()], (), (0, 1), None)
        self.check((3, 0), (), ("as many", 2, 2), [()], (), (), None)
        self.check((3, 0), FOUR, ("all", 1, 1), [()], (), (0, 1, 2, 3), None)

    def test_no_reason(self):
        self.check((3, 0), TWO, ("some", 1, 2), [], (), (0, 1), ())
        self.check((3, 0), TWO, None, [], (), (0, 1), ())
        self.check((3, 0), (), None, [], (), (), ())
        self.check((3, 0), (), ("some", 0, 0), [], (), (), ())
        self.check((3, 0), TWO, ("fewer", 1, 1), [], (), (0, 1), ())

    def test_a_claim_that_holds_in_no_model(self):
        # It has the reasons of None.
        self.check((3, 0), FOUR, ("some not", 1, 1), [(1, 2, 3)], (1, 2, 3), (0,), (1,))
        self.check((1, 0), (("fewer", 0, 0), ("some not", 0, 0)), ("fewer", 0, 0), [(0,), (1,)], (), (), (0, 1))

    def test_one_premise(self):
        self.check((1, 0), (("fewer", 0, 0),), None, [(0,)], (0,), (), (0,))
        self.check((2, 0), (("all", 0, 1),), ("all", 0, 1), [(0,)], (0,), (), (0,))
        self.check((2, 0), (("all", 0, 1),), ("all", 1, 0), [], (), (0,), ())

    def test_eight_premises(self):
        found = [(0, 1), (1, 7), (2, 3), (3, 5)]
        self.check((4, 0), EIGHT, ("all", 0, 3), found, (), (4, 6), (1, 3))
        self.assertEqual(found, reasons_by(8, enough_by((4, 0), EIGHT, ("all", 0, 3))))
        self.check((1, 0), (("no", 0, 0),) * 8, ("no", 0, 0), [(index,) for index in range(8)], (), (), tuple(range(8)))
        self.check((1, 0), (("no", 0, 0),) * 7 + (("some", 0, 0),), None, [(at, 7) for at in range(7)], (7,), (), (7,))
        self.check((4, 2), (("no", 0, 0),) * 8, None, [], (), tuple(range(8)), ())

    def test_eight_premises_in_a_row(self):
        row = tuple(("all", x, y) for x, y in ((0, 1), (1, 2), (2, 3))) + (("some", 0, 0), ("no", 3, 3))
        row += (("as many", 0, 3), ("fewer", 3, 0), ("some", 3, 3))
        told = enough_by((4, 0), row, None)
        found = reasons((4, 0), row, None)
        self.assertEqual(found, reasons_by(8, told))
        self.assertEqual(found[0], (4, 7))
        self.assertEqual(removal((4, 0), row, None), removal_by(8, told))

    def test_in_order_by_size(self):
        premises = (("all", 0, 1), ("all", 1, 2), ("all", 0, 2), ("all", 0, 2))
        self.assertEqual(reasons((3, 0), premises, ("all", 0, 2)), [(2,), (3,), (0, 1)])

    def test_with_verbs(self):
        premises = (
            verb("some", 0, True, 0, False, "all", 1), ("some", 1, 1), verb("all", 1, True, 0, True, "some", 0),
            ("some", 0, 1), ("all", 1, 0))
        claim = verb("some", 0, True, 0, False, "some", 1)
        self.assertEqual(reasons((2, 1), premises, claim), [(0, 1), (0, 3), (1, 2), (2, 3)])
        self.assertEqual(removal((2, 1), premises, claim), (0, 2))
        self.assertEqual(unused((2, 1), premises, claim), (4,))


class ByAllParts(unittest.TestCase):
    def check(self, signature, premises, claim):
        many, told = len(premises), enough_by(signature, premises, claim)
        everything = tuple(range(many))
        found = reasons_by(many, told)
        self.assertEqual(reasons(signature, premises, claim), found)
        for part in told:
            self.assertIs(told[part], any(set(reason) <= set(part) for reason in found))
        self.assertIs(is_enough(signature, premises, claim), told[everything])
        without = [everything[:index] + everything[index + 1:] for index in range(many)]
        needed = tuple(index for index in range(many) if told[everything] and not told[without[index]])
        self.assertEqual(necessary(signature, premises, claim), needed)
        self.assertEqual(needed, tuple(at for at in range(many) if found and all(at in one for one in found)))
        needless = tuple(index for index in range(many) if not any(index in one for one in found))
        self.assertEqual(unused(signature, premises, claim), needless)
        self.assertEqual(removal(signature, premises, claim), removal_by(many, told))
        return len(found)

    def test_mixed_grounds(self):
        met = [0] * 30
        for signature, premises, claim in grounds(79, SIGNATURES, 40):
            met[self.check(signature, premises, claim)] += 1
        self.assertGreater(met[0], 20)
        self.assertGreater(met[1], 20)
        self.assertGreater(sum(met[2:]), 20)

    def test_up_to_eight_premises(self):
        for signature, premises, claim in grounds(791, ((3, 0), (4, 0), (2, 1)), 12, 8):
            self.check(signature, premises, claim)

    def test_enough_is_what_entails_in_small_models(self):
        stream = Stream(78)
        for signature in ((2, 0), (1, 1), (2, 1)):
            models, sentences = small_models(signature, 2), sentences_of(signature)
            for _ in range(40):
                premises, claim = mixed_premises(sentences, stream, 3), sentences[stream.below(len(sentences))]
                if is_enough(signature, premises, claim):
                    self.assertTrue(all(truth(model, claim) for model in models if is_model_of(model, premises)))
                if is_enough(signature, premises, None):
                    self.assertFalse(any(is_model_of(model, premises) for model in models))


class OtherPremises(unittest.TestCase):
    def test_all_unused_premises_can_be_left_out_at_once(self):
        for signature, premises, claim in grounds(80, SIGNATURES, 20):
            left_out = unused(signature, premises, claim)
            kept = [index for index in range(len(premises)) if index not in left_out]
            found = reasons(signature, tuple(premises[index] for index in kept), claim)
            self.assertEqual(
                [tuple(kept[at] for at in part) for part in found], reasons(signature, premises, claim))

    def test_the_removal_has_a_premise_of_each_reason(self):
        for signature, premises, claim in grounds(81, SIGNATURES, 20):
            part, found = removal(signature, premises, claim), reasons(signature, premises, claim)
            self.assertIs(part is None, found == [()])
            if part is not None:
                self.assertTrue(all(set(part) & set(reason) for reason in found))
                rest = tuple(one for index, one in enumerate(premises) if index not in part)
                self.assertIs(is_enough(signature, rest, claim), False)

    def test_a_further_premise(self):
        stream = Stream(84)
        for signature, premises, claim in grounds(841, SIGNATURES, 20):
            sentences = sentences_of(signature)
            further = premises + (sentences[stream.below(len(sentences))],)
            was, found = reasons(signature, premises, claim), reasons(signature, further, claim)
            self.assertEqual([part for part in found if len(premises) not in part], was)

    def test_premises_that_hold_in_the_same_models(self):
        for signature, premises, claim in grounds(85, SIGNATURES, 20):
            if premises == ():
                continue
            at, new = len(premises) - 1, len(premises)
            found = reasons(signature, premises + premises[at:], claim)
            self.assertFalse(any(at in part and new in part for part in found))
            turned = [tuple(sorted(new if index == at else index for index in part)) for part in found if at in part]
            self.assertEqual(turned, [part for part in found if new in part])
        self.assertEqual(reasons((2, 0), (("no", 0, 1), ("no", 1, 0), ("some", 1, 0)), None), [(0, 2), (1, 2)])

    def test_reasons_of_none_are_enough_for_each_claim(self):
        for signature, premises, claim in grounds(86, SIGNATURES, 20):
            if claim is not None:
                found = reasons(signature, premises, claim)
                for part in reasons(signature, premises, None):
                    self.assertIs(is_enough(signature, tuple(premises[index] for index in part), claim), True)
                    self.assertTrue(any(set(one) <= set(part) for one in found))

    def test_a_claim_can_have_smaller_reasons(self):
        premises = (("some", 0, 0), ("no", 0, 0))
        self.assertEqual(reasons((1, 0), premises, None), [(0, 1)])
        self.assertEqual(reasons((1, 0), premises, ("some", 0, 0)), [(0,)])
        self.assertEqual(reasons((1, 0), premises, ("all", 0, 0)), [()])

    def test_a_list_of_ones_own(self):
        reasons((3, 0), FOUR, None).append(None)
        self.assertEqual(reasons((3, 0), FOUR, None), [(1, 2, 3)])


class Refusals(unittest.TestCase):
    wrong = [one for one in wrong_sentences((2, 1)) if one is not None]

    def test_each_function(self):
        for function in (reasons, is_enough, necessary, unused, removal):
            for claim in (None, ("some", 0, 1)):
                check_refusals(
                    self, function, ("signature", (2, 1), WRONG_SIGNATURES),
                    ("premises", (("all", 0, 1),) * 8, wrong_premises((2, 1))),
                    ("claim", claim, self.wrong[:10] + self.wrong[10::97]))


if __name__ == "__main__":
    unittest.main()
