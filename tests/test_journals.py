"""Points 123, 124 and 129: debates replayed from their journals, and the judge of records."""

import unittest

from allsomeno.debate import Debate
from allsomeno.errors import BadValue, NotPossible
from allsomeno.journals import are_right, replayed

from tests.checking import SIGNATURES, VALUES, WRONG_SIGNATURES, check_refusals, with_item
from tests.reference import Stream, is_model_of, mixed_model
from tests.test_debate import ALL, NO, NOT_ALL, SOME, courses, debate_with, eight, full, told, wrong_commands

NOBODY = ((), (), ())
ONE_0 = (((1, (0,)),), (), ())
BOTH = (((1, (0, 1)),), (), ())
THREE = ((("assert", 0, ALL), BOTH), (("assert", 1, NOT_ALL), ONE_0), (("withdraw", 0), None))


def are_right_by(signature, records):
    """Whether pairs of right commands and models, or None, are right (point 124), counted one by one."""
    said = []
    for command, model in records:
        if command[0] == "assert":
            if len(said) == 8 or model is None:
                return False
            said.append(command[1:])
            if not is_model_of(model, [sentence for speaker, sentence in said if speaker == command[1]]):
                return False
        else:
            if command[1] >= len(said) or model is not None:
                return False
            del said[command[1]]
    return len(records) <= 20


class Replayed(unittest.TestCase):
    """Point 123."""

    def test_of_the_interface(self):
        debate = debate_with((3, 0), ("assert", 0, ALL), ("assert", 1, NOT_ALL), ("assert", 2, ("no", 0, 2)))
        self.assertEqual(replayed((3, 0), debate.journal()).disputes(), ((0, 1),))

    def test_an_empty_journal(self):
        for signature in SIGNATURES:
            self.assertEqual(told(replayed(signature, ())), told(Debate(signature)))

    def test_many(self):
        for debate, course in courses(1230, 6):
            again = replayed(course.signature, tuple(course.commands))
            self.assertIsInstance(again, Debate)
            self.assertEqual(told(again), told(debate))
            before = told(debate)
            while again.undo() is not None:
                pass
            self.assertEqual(told(debate), before)

    def test_twenty_commands(self):
        self.assertEqual(told(replayed((2, 1), full().journal())), told(full()))
        self.assertEqual(len(replayed((2, 1), full().journal()).journal()), 20)

    def test_journals_with_a_command_that_is_not_possible(self):
        one = ("assert", 0, ALL)
        for journal, why in (
            ((("withdraw", 0),), "missing"), ((one, ("withdraw", 1)), "missing"),
            ((one, ("assert", 0, NOT_ALL)), "self"),
            ((one, ("withdraw", 0), ("withdraw", 0)), "missing"), ((("assert", 1, ("some not", 0, 0)),), "self"),
            ((one,) * 9, "many"), ((one,) * 8 + (("assert", 0, NOT_ALL),), "many"), ((one,) * 20, "many"),
            ((one,) * 7 + (("assert", 0, NOT_ALL), one, one), "self"), ((("withdraw", 7),) + (one,) * 9, "missing"),
        ):
            with self.assertRaises(NotPossible) as caught:
                replayed((2, 0), journal)
            self.assertEqual(caught.exception.why, why)

    def test_wrong_values(self):
        one = ("assert", 0, ALL)
        wrong = [None, True, 0, "", [], [one], one, (one, None), (one,) * 21, full().journal() + (("withdraw", 0),), {}]
        wrong += [(one, command, one) for command in wrong_commands((2, 1))]
        wrong += [(("withdraw", 0), command) for command in wrong_commands((2, 1))[:30]]
        check_refusals(
            self, replayed, ("signature", (2, 1), WRONG_SIGNATURES), ("journal", eight().journal(), wrong))
        check_refusals(
            self, replayed, ("signature", (1, 0), WRONG_SIGNATURES), ("journal", (), [(one,), eight().journal()]))

    def test_wrong_values_come_first(self):
        missing = ("withdraw", 0)
        for journal in ((missing, None), (missing,) * 21, (missing, ("withdraw", 8)), (missing, ("assert", 6, ALL))):
            with self.assertRaises(BadValue) as caught:
                replayed((2, 0), journal)
            self.assertEqual(caught.exception.name, "journal")


class Right(unittest.TestCase):
    """Point 124."""

    def check(self, records, right=False, signature=(2, 0)):
        self.assertIs(are_right(signature, records), right, records)

    def test_ordinary(self):
        self.check((), True)
        self.check(THREE, True)
        self.check(THREE[:2], True)
        self.check(((("assert", 4, ("some", 0, 0)), (((3, (0,)),), (), ())), (("withdraw", 0), None)), True, (1, 0))
        self.check(((("assert", 4, ("some", 0, 0)), NOBODY),), False, (1, 0))

    def test_any_model_does(self):
        for model in (NOBODY, BOTH, (((7, (0, 1)), (1, ()), (1000, (1,))), (), ()), (((1, ()),) * 40, (), ())):
            self.check(((("assert", 0, ALL), model),), True)
        for model in (ONE_0, (((7, (0, 1)), (1, (0,))), (), ()), (((1, ()),) * 41, (), ()), None, ()):
            self.check(((("assert", 0, ALL), model),))

    def test_all_present_sentences_of_the_speaker(self):
        first, second = (("assert", 2, ALL), NOBODY), (("assert", 2, SOME), BOTH)
        self.check((first, second), True)
        # A model of the second sentence alone, in which the first one does not hold.
        other = (((1, (0, 1)), (1, (0,))), (), ())
        self.check((first, (second[0], other)))
        self.check((first, (("assert", 3, SOME), other)), True)
        self.check((first, (("withdraw", 0), None), (second[0], other)), True)
        self.check((first, (("withdraw", 0), None), (first[0], other)))
        self.check((second, (("withdraw", 0), None), first), True)
        self.check((second, first))

    def test_nothing_shows_a_contradiction(self):
        for model in (NOBODY, ONE_0, BOTH, None):
            self.check(((("assert", 0, ALL), NOBODY), (("assert", 0, NOT_ALL), model)))
            self.check(((("assert", 5, ("fewer", 1, 1)), model),))

    def test_exchanged_left_out_or_put_in(self):
        first, second, third = THREE
        for records in (
            (second, first, third), (first, third, second), (second, third), (first, third), (first,), (second,),
            (first, second) * 2,
        ):
            self.check(records, True)
        for records in (
            (third,), (third, first), (first, third, third), ((first[0], second[1]), second, third),
            (first, (second[0], first[1]), third), (first, second, (third[0], BOTH)),
            (first, second, (third[0], NOBODY)), (first, second, (third[0], ())), ((first[0], None), second, third),
            (first, second, third, (first[0], ONE_0)), (first, (first[0], ONE_0)),
            (first, second, (("withdraw", 2), None)), (first, second, (("withdraw", 8), None)),
            (first[::-1], second, third), (first, second, third[::-1]),
        ):
            self.check(records)

    def test_eight_assertions_and_a_ninth(self):
        one = (("assert", 0, ALL), NOBODY)
        for many in range(12):
            self.check((one,) * many, many <= 8)
        self.check((one,) * 8 + ((("withdraw", 3), None), one), True)
        self.check((one,) * 8 + ((("withdraw", 3), None), one, one))

    def test_numbers(self):
        one = (("assert", 0, ALL), NOBODY)
        for many in range(9):
            for number in range(8):
                self.check((one,) * many + ((("withdraw", number), None),), number < many)

    def test_twenty_records_and_one_more(self):
        pair = (("assert", 0, ALL), NOBODY), (("withdraw", 0), None)
        self.check(pair * 10, True)
        self.check(pair * 10 + pair[:1])
        self.check(pair * 11)
        self.check(pair[:1] + pair[:1] + pair[1:] + pair * 8 + pair[:1], True)

    def test_lists_for_tuples(self):
        first, second, third = THREE
        self.check(list(THREE))
        for at, record in enumerate(THREE):
            self.check(with_item(THREE, at, list(record)))
            self.check(with_item(THREE, at, (list(record[0]), record[1])))
        self.check(with_item(THREE, 0, ((first[0][:2] + (list(ALL),)), BOTH)))
        self.check(with_item(THREE, 0, (first[0], list(BOTH))))
        self.check(with_item(THREE, 0, (first[0], ([(1, (0, 1))], (), ()))))
        self.check(with_item(THREE, 0, (first[0], (((1, [0, 1]),), (), ()))))

    def test_true_and_false_for_integers(self):
        first, second, third = THREE
        self.check(with_item(THREE, 0, (("assert", False, ALL), BOTH)))
        self.check(with_item(THREE, 0, (("assert", 0, ("all", False, 1)), BOTH)))
        self.check(with_item(THREE, 0, (("assert", 0, ("all", 0, True)), BOTH)))
        self.check(with_item(THREE, 0, (first[0], (((True, (0, 1)),), (), ()))))
        self.check(with_item(THREE, 0, (first[0], (((1, (False, 1)),), (), ()))))
        self.check(with_item(THREE, 2, (("withdraw", False), None)))
        self.check(with_item(THREE, 2, (("withdraw", True), None)))
        self.check(with_item(THREE, 2, (third[0], False)))

    def test_wrong_commands(self):
        for command in wrong_commands((2, 0)):
            for model in (None, NOBODY, BOTH):
                self.check(((command, model),))
                self.check(THREE[:1] + ((command, model),))

    def test_other_forms(self):
        for at, record in enumerate(THREE):
            for wrong in (record[:1], record + (None,), (record,), record[0], record[1], None, (), ((), ())):
                self.check(with_item(THREE, at, wrong))
        self.check(THREE[0])
        self.check((THREE,))
        for command in (("assert", 0, ("no", 2, 0)), ("assert", 0, ("self", "all", 0, True, 0))):
            self.check(((command, NOBODY),))
        self.check(((("assert", 0, NO), ((), ((),), ((),))),))
        self.check(((("assert", 0, NO), ((), ((),), ((),))),), True, (2, 1))

    def test_values_of_every_kind(self):
        for value in VALUES:
            self.check(value, value == () and isinstance(value, tuple))
            self.check((value,))
            self.check(THREE + (value,))
            self.check(((value, None),))
            self.check(((value, NOBODY),))
            self.check(with_item(THREE, 2, (("withdraw", 0), value)), value is None)
            self.check(((("assert", 0, SOME), value),))

    def test_many(self):
        stream, met = Stream(124), {True: 0, False: 0}
        for debate, course in courses(1241, 6):
            records = debate.records()
            self.check(records, True, course.signature)
            models = [model for _, model in records] + [None, mixed_model(course.signature, stream)]
            for _ in range(8 if records else 0):
                at = stream.below(len(records))
                before, record, behind = records[:at], records[at], records[at + 1:]
                other = (
                    before + behind, before + (record, record) + behind, before + behind[:1] + (record,) + behind[1:],
                    before + ((record[0], models[stream.below(len(models))]),) + behind,
                )[stream.below(4)]
                right = are_right_by(course.signature, other)
                met[right] += 1
                self.check(other, right, course.signature)
        self.assertGreater(min(met.values()), 50)

    def test_with_mixed_models(self):
        stream, met = Stream(1242), {True: 0, False: 0}
        for _, course in courses(1243, 8, 3):
            for _ in range(10):
                records = tuple(
                    (command, mixed_model(course.signature, stream, 2) if command[0] == "assert" else None)
                    for command in course.commands)
                right = are_right_by(course.signature, records)
                met[right] += 1
                self.check(records, right, course.signature)
        self.assertGreater(min(met.values()), 50)

    def test_signatures(self):
        for value in ((), None, THREE):
            check_refusals(self, are_right, ("signature", (2, 0), WRONG_SIGNATURES), ("records", value, ()))


if __name__ == "__main__":
    unittest.main()
