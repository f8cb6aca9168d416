"""Points 119 to 123 and 125 to 130: debates, their commands and journals, disputes, records and twins."""

import unittest

from allsomeno.canonical import accepts_model, canonical_model
from allsomeno.conflicts import can_hold
from allsomeno.debate import Debate
from allsomeno.errors import BadValue, NotPossible, TooLarge
from allsomeno.journals import are_right, replayed

from tests.checking import SIGNATURES, WRONG_SIGNATURES, sentences_of, wrong_sentences
from tests.reference import Stream
from tests.second import conflicts_of, negation_of
from tests.speech import Course

ALL, NOT_ALL = ("all", 0, 1), ("some not", 0, 1)
SOME, NO = ("some", 0, 1), ("no", 0, 1)
MORE = ("all", 1, 2)
NUMBERS = (-1, 8, 9, 10 ** 30, True, False, None, "0", (0,), [0])
SPEAKERS = (-1, 6, 7, 10 ** 30, True, False, None, "0", (0,), [0])


def wrong_commands(signature):
    """Values that are no commands for the signature."""
    found = [
        None, True, 0, "", "assert", "withdraw", (), [], ("assert",), ("withdraw",), ("assert", 0), ("withdraw", 0, 0),
        ("assert", 0, ALL, 0), ("assert", ALL, 0), ["assert", 0, ALL], ["withdraw", 0], (("assert", 0, ALL),),
        ("withdraw", 0, ALL), ("Assert", 0, ALL), ("withdrawn", 0), ("undo",), ("undo", 0), (None, 0), (None, 0, ALL),
        (["assert"], 0, ALL), (0, 0), (0, ALL), ("assert", 0, (ALL,)), ("assert", 0, list(ALL)),
    ]
    found.extend(("withdraw", number) for number in NUMBERS)
    found.extend(("assert", speaker, ALL) for speaker in SPEAKERS)
    found.extend(("assert", 0, sentence) for sentence in wrong_sentences(signature)[::7])
    return found


def told(debate):
    """All that a debate tells."""
    return (
        debate.journal(), debate.assertions(), tuple(debate.sentences(speaker) for speaker in range(6)),
        debate.disputes(), debate.can_hold(), debate.records(),
    )


def told_by(course):
    """All that a debate tells, worked out a second time."""
    return (
        tuple(course.commands), course.assertions(), tuple(course.sentences(speaker) for speaker in range(6)),
        course.disputes(), course.can_hold(), course.records(),
    )


def debate_with(signature, *commands):
    debate = Debate(signature)
    for command in commands:
        debate.act(command)
    return debate


def eight(signature=(2, 1)):
    """A debate with eight assertions, of four speakers."""
    return debate_with(signature, *[("assert", at % 4, ALL) for at in range(8)])


def full(signature=(2, 1)):
    """A debate with twenty commands in its journal, and no assertions."""
    return debate_with(signature, *[("assert", 0, ALL), ("withdraw", 0)] * 10)


def mixed_command(stream, signature, assertions):
    """A command that is possible or not; some sentences are near to what was asserted."""
    sentences = sentences_of(signature)
    if stream.below(4) == 0:
        return ("withdraw", stream.below(8) if stream.below(3) == 0 else stream.below(len(assertions) + 1) % 8)
    chosen = [one for one in sentences if len(one) == 3] if stream.below(2) else sentences
    if assertions and stream.below(3) == 0:
        chosen = [negation_of(sentence) for _, sentence in assertions]
    return ("assert", stream.below(6) if stream.below(2) else 0, chosen[stream.below(len(chosen))])


class Checks(unittest.TestCase):
    def check_refused(self, debate, command, error, attribute, word):
        before = told(debate)
        with self.assertRaises(error) as caught:
            debate.act(command)
        self.assertIs(type(caught.exception), error)
        self.assertEqual(getattr(caught.exception, attribute), word)
        self.assertEqual(told(debate), before)

    def check_not_possible(self, debate, command, why):
        self.check_refused(debate, command, NotPossible, "why", why)


class Commands(Checks):
    """Points 119, 120 and 130."""

    def test_new_debates(self):
        for signature in SIGNATURES:
            debate = Debate(signature)
            self.assertEqual(told(debate), ((), (), ((),) * 6, (), True, ()))
            self.assertIsNone(debate.undo())

    def test_of_point_130(self):
        debate = Debate((2, 0))
        self.assertEqual(debate.act(("assert", 0, ALL)), 1)
        self.assertEqual(debate.act(("assert", 1, NOT_ALL)), 2)
        self.assertEqual(debate.disputes(), ((0, 1),))
        self.check_not_possible(debate, ("assert", 0, NOT_ALL), "self")
        self.check_not_possible(debate, ("assert", 1, ALL), "self")
        self.assertEqual(debate.act(("assert", 2, NOT_ALL)), 3)
        self.assertEqual(debate.disputes(), ((0, 1), (0, 2)))

    def test_asserted_behind_the_others(self):
        debate = debate_with((2, 0), ("assert", 5, ALL), ("assert", 0, SOME), ("assert", 5, SOME), ("assert", 5, ALL))
        self.assertEqual(debate.assertions(), ((5, ALL), (0, SOME), (5, SOME), (5, ALL)))
        self.assertEqual([debate.sentences(speaker) for speaker in (0, 1, 5)], [(SOME,), (), (ALL, SOME, ALL)])
        self.assertEqual(len(debate.journal()), 4)

    def test_withdrawn(self):
        three = [("assert", 0, ALL), ("assert", 1, SOME), ("assert", 2, NO)]
        for number, left in ((0, ((1, SOME), (2, NO))), (1, ((0, ALL), (2, NO))), (2, ((0, ALL), (1, SOME)))):
            debate = debate_with((2, 0), *three)
            self.assertEqual(debate.act(("withdraw", number)), 4)
            self.assertEqual(debate.assertions(), left)
            self.assertEqual(debate.journal(), tuple(three) + (("withdraw", number),))
            self.assertEqual(debate.sentences(number), ())

    def test_eight_assertions_and_a_ninth(self):
        debate = eight()
        self.assertEqual(len(debate.assertions()), 8)
        for sentence in (ALL, NOT_ALL, ("no", 0, 0), ("some not", 1, 1)):
            for speaker in range(6):
                self.check_not_possible(debate, ("assert", speaker, sentence), "many")
        self.assertEqual(debate.act(("withdraw", 7)), 9)
        self.assertEqual(debate.act(("assert", 5, NOT_ALL)), 10)
        self.check_not_possible(debate, ("assert", 5, NOT_ALL), "many")

    def test_eight_assertions_of_one_speaker(self):
        eight_sentences = (
            ("fewer", 0, 1), ("fewer", 1, 2), ("fewer", 2, 3), ("some", 0, 1), ("some", 1, 2), ("some not", 0, 3),
            ("verb", "all", 3, True, 0, False, "some", 3), ("self", "all", 3, False, 0))
        debate = debate_with((4, 1), *[("assert", 3, sentence) for sentence in eight_sentences])
        self.assertEqual(debate.sentences(3), eight_sentences)
        self.assertIs(debate.can_hold(), True)
        self.assertEqual(debate.records()[7][1], canonical_model((4, 1), eight_sentences))

    def test_contradictions_of_one_speaker(self):
        for signature, sentences, wrong in (
            ((1, 0), (), ("some not", 0, 0)), ((1, 0), (), ("fewer", 0, 0)), ((2, 0), (NO,), SOME),
            ((2, 0), (NO,), ("some", 1, 0)), ((3, 0), (ALL, ("all", 1, 2), ("as many", 0, 2)), ("some not", 2, 0)),
            ((1, 1), (("self", "all", 0, False, 0), ("some", 0, 0)), ("verb", "all", 0, True, 0, False, "all", 0)),
        ):
            debate = debate_with(signature, *[("assert", 4, sentence) for sentence in sentences])
            self.check_not_possible(debate, ("assert", 4, wrong), "self")
            if sentences:
                # Another speaker can say it.
                self.assertEqual(debate.act(("assert", 3, wrong)), len(sentences) + 1)
                self.assertEqual(debate.disputes(), ((3, 4),))
            else:
                self.check_not_possible(debate, ("assert", 0, wrong), "self")

    def test_withdrawn_sentences_do_not_count(self):
        debate = debate_with((2, 0), ("assert", 0, ALL))
        self.check_not_possible(debate, ("assert", 0, NOT_ALL), "self")
        debate.act(("withdraw", 0))
        self.assertEqual(debate.act(("assert", 0, NOT_ALL)), 3)
        self.check_not_possible(debate, ("assert", 0, ALL), "self")

    def test_numbers_that_are_missing(self):
        debate = Debate((2, 1))
        for many in range(8):
            for number in range(8):
                if number >= many:
                    self.check_not_possible(debate, ("withdraw", number), "missing")
            debate.act(("assert", 5, ALL))
        for number in range(8):
            other = debate.twin()
            self.assertEqual(other.act(("withdraw", number)), 9)

    def test_twenty_commands_and_one_more(self):
        debate = full()
        self.assertEqual(len(debate.journal()), 20)
        for command in (("assert", 0, ALL), ("assert", 5, NOT_ALL)):
            self.check_refused(debate, command, TooLarge, "what", "commands")
        self.assertEqual(debate.undo(), ("withdraw", 0))
        self.assertEqual(debate.act(("withdraw", 0)), 20)
        other = debate_with((2, 1), *[("assert", 0, ALL), ("withdraw", 0)] * 9, ("assert", 0, ALL), ("assert", 1, ALL))
        self.check_refused(other, ("withdraw", 1), TooLarge, "what", "commands")
        self.check_refused(other, ("assert", 1, ALL), TooLarge, "what", "commands")


class Refusals(Checks):
    """Point 129."""

    def test_signatures(self):
        for wrong in WRONG_SIGNATURES:
            with self.assertRaises(BadValue) as caught:
                Debate(wrong)
            self.assertEqual(caught.exception.name, "signature")

    def test_commands(self):
        debate = debate_with((2, 1), ("assert", 0, ALL), ("assert", 1, SOME))
        before = told(debate)
        for wrong in wrong_commands((2, 1)):
            with self.assertRaises(BadValue) as caught:
                debate.act(wrong)
            self.assertEqual(caught.exception.name, "command")
        self.assertEqual(told(debate), before)
        other = Debate((1, 0))
        for wrong in (("assert", 0, ALL), ("assert", 0, ("self", "all", 0, True, 0)), ("assert", 0, ("no", 1, 0))):
            self.check_refused(other, wrong, BadValue, "name", "command")

    def test_speakers(self):
        debate = debate_with((2, 1), ("assert", 0, ALL))
        for wrong in SPEAKERS + ((), "assert"):
            with self.assertRaises(BadValue) as caught:
                debate.sentences(wrong)
            self.assertEqual(caught.exception.name, "speaker")
        self.assertEqual([debate.sentences(speaker) for speaker in range(6)], [(ALL,), (), (), (), (), ()])

    def test_wrong_values_come_first(self):
        for debate in (eight(), full()):
            far = ("assert", 0, ("all", 0, 2))
            for command in (("assert", 6, ALL), far, ("withdraw", 8), ("withdraw", True), None):
                self.check_refused(debate, command, BadValue, "name", "command")

    def test_many_comes_ahead_of_self(self):
        debate = eight()
        self.check_not_possible(debate, ("assert", 0, NOT_ALL), "many")
        self.check_not_possible(debate, ("assert", 0, ("fewer", 0, 0)), "many")
        debate.undo()
        self.check_not_possible(debate, ("assert", 0, NOT_ALL), "self")

    def test_what_is_not_possible_comes_ahead_of_too_large(self):
        debate = full()
        for number in range(8):
            self.check_not_possible(debate, ("withdraw", number), "missing")
        self.check_not_possible(debate, ("assert", 0, ("some not", 1, 1)), "self")
        six = [("assert", 0, ALL), ("withdraw", 0)] * 6
        other = debate_with((2, 1), *six, *[("assert", at % 4, ALL) for at in range(8)])
        self.assertEqual(len(other.journal()), 20)
        self.check_not_possible(other, ("assert", 0, NOT_ALL), "many")
        self.check_not_possible(other, ("assert", 5, NOT_ALL), "many")
        self.check_refused(other, ("withdraw", 7), TooLarge, "what", "commands")
        three = [("assert", 1, ALL), ("withdraw", 1)] * 3
        other = debate_with((2, 1), *six, ("assert", 0, ALL), *three, ("assert", 2, NO))
        self.check_not_possible(other, ("assert", 0, NOT_ALL), "self")
        self.check_not_possible(other, ("withdraw", 2), "missing")
        self.check_refused(other, ("withdraw", 1), TooLarge, "what", "commands")


class Disputes(Checks):
    """Points 121, 122 and 126."""

    def test_of_two(self):
        debate = debate_with((2, 0), ("assert", 4, SOME), ("assert", 1, NO), ("assert", 3, ALL))
        self.assertEqual(debate.disputes(), ((1, 4),))
        self.assertIs(debate.can_hold(), False)
        debate.act(("assert", 3, ("some", 0, 0)))
        self.assertEqual(debate.disputes(), ((1, 3), (1, 4)))
        debate.act(("withdraw", 1))
        self.assertEqual(debate.disputes(), ())
        self.assertIs(debate.can_hold(), True)

    def test_of_all_six(self):
        debate = debate_with(
            (2, 0), *[("assert", speaker, SOME if speaker % 2 else NO) for speaker in (5, 4, 3, 2, 1, 0)])
        pairs = [(one, other) for one in range(6) for other in range(one + 1, 6) if (one + other) % 2]
        self.assertEqual(debate.disputes(), tuple(pairs))

    def test_nobody_disputes_and_yet_all_together_have_no_model(self):
        debate = debate_with((3, 0), ("assert", 0, ALL), ("assert", 1, MORE), ("assert", 2, ("some not", 0, 2)))
        self.assertEqual(debate.disputes(), ())
        self.assertIs(debate.can_hold(), False)

    def test_sentences_of_one_speaker_together(self):
        debate = debate_with((3, 0), ("assert", 0, ALL), ("assert", 0, MORE), ("assert", 2, ("some not", 0, 2)))
        self.assertEqual(debate.disputes(), ((0, 2),))
        debate.act(("withdraw", 0))
        self.assertEqual(debate.disputes(), ())

    def test_eight_assertions_of_two_speakers(self):
        row = (("fewer", 0, 1), ("fewer", 1, 2), ("fewer", 2, 3), ("as many", 0, 3))
        debate = debate_with((4, 0), *[("assert", at % 2, sentence) for at, sentence in enumerate(row + row)])
        self.assertEqual(debate.disputes(), ((0, 1),))
        self.assertIs(debate.can_hold(), False)

    def test_for_each_speaker_some_model_is_there(self):
        for debate, course in courses(122, 6):
            for speaker in range(6):
                self.assertIs(can_hold(course.signature, debate.sentences(speaker)), True)

    def test_who_disputes(self):
        met = {True: 0, False: 0}
        for debate, course in courses(121, 12):
            found = debate.disputes()
            self.assertEqual(found, course.disputes())
            self.assertEqual(found, tuple(sorted(found)))
            met[found == ()] += 1
            if debate.can_hold():
                self.assertEqual(found, ())
        self.assertGreater(min(met.values()), 30)

    def test_withdrawing_makes_no_disputes(self):
        for debate, _ in courses(126, 6, 12):
            before = set(debate.disputes())
            for number in range(len(debate.assertions())):
                other = debate.twin()
                other.act(("withdraw", number))
                self.assertLessEqual(set(other.disputes()), before)


def courses(seed, each, most=20):
    """Debates behind many commands, and their courses worked out by the tests."""
    stream = Stream(seed)
    for signature in SIGNATURES:
        for _ in range(each):
            debate, course = Debate(signature), Course(signature)
            for _ in range(stream.below(most) + 4):
                command = mixed_command(stream, signature, course.assertions())
                if course.refusal(command) is None and len(course.commands) < most:
                    course.commands.append(command)
                    debate.act(command)
            yield debate, course


class Undoing(Checks):
    """Points 123, 127 and 128."""

    def test_undone_step_by_step(self):
        debate = debate_with((2, 0), ("assert", 0, ALL), ("assert", 1, SOME), ("withdraw", 0), ("assert", 2, NO))
        self.assertEqual(debate.undo(), ("assert", 2, NO))
        self.assertEqual(debate.assertions(), ((1, SOME),))
        self.assertEqual(debate.undo(), ("withdraw", 0))
        self.assertEqual(debate.assertions(), ((0, ALL), (1, SOME)))
        self.assertEqual(debate.undo(), ("assert", 1, SOME))
        self.assertEqual(debate.undo(), ("assert", 0, ALL))
        self.assertEqual(told(debate), told(Debate((2, 0))))
        self.assertIsNone(debate.undo())
        self.assertIsNone(debate.undo())
        self.assertEqual(debate.act(("assert", 3, NO)), 1)

    def test_all_is_as_it_was(self):
        for debate, course in courses(123, 4):
            before = [told(debate)]
            for command in reversed(course.commands):
                self.assertEqual(debate.undo(), command)
                before.append(told(debate))
            self.assertIsNone(debate.undo())
            for command, was in zip(course.commands, before[-2::-1]):
                debate.act(command)
                self.assertEqual(told(debate), was)

    def test_put_in_and_taken_out(self):
        stream = Stream(127)
        for debate, course in courses(1271, 6, 18):
            number = len(course.assertions())
            command = mixed_command(stream, course.signature, ())
            if command[0] == "assert" and course.refusal(command) is None:
                before = told(debate)
                debate.act(command)
                debate.act(("withdraw", number))
                self.assertEqual(told(debate)[1:5], before[1:5])
                self.assertEqual(debate.journal(), before[0] + (command, ("withdraw", number)))

    def test_twins(self):
        for debate, course in courses(128, 4, 18):
            before = told(debate)
            twin = debate.twin()
            self.assertIsInstance(twin, Debate)
            self.assertIsNot(twin, debate)
            self.assertEqual(told(twin), before)
            while twin.undo() is not None:
                self.assertEqual(told(debate), before)
            self.assertEqual(told(twin), told(Debate(course.signature)))
            again = debate.twin()
            again.act(("withdraw", 0) if course.assertions() else ("assert", 5, ("all", 0, 0)))
            self.assertEqual(told(debate), before)
            kept = told(again)
            debate.undo()
            self.assertEqual(told(again), kept)

    def test_twins_of_a_signature(self):
        twin = Debate((1, 0)).twin()
        self.check_refused(twin, ("assert", 0, ALL), BadValue, "name", "command")
        self.assertEqual(eight((2, 2)).twin().act(("withdraw", 0)), 9)
        self.check_refused(full().twin(), ("assert", 0, ALL), TooLarge, "what", "commands")

    def test_what_was_returned_stays(self):
        debate = debate_with((2, 0), ("assert", 0, ALL))
        before = told(debate)
        again = told(debate)
        debate.act(("assert", 1, NOT_ALL))
        debate.undo()
        debate.undo()
        self.assertEqual(before, again)
        self.assertEqual(before[0], (("assert", 0, ALL),))


class Courses(Checks):
    """All together, over many commands."""

    def test_many_commands(self):
        stream, met = Stream(120), {}
        for signature in SIGNATURES:
            for _ in range(10):
                debate, course = Debate(signature), Course(signature)
                for _ in range(45):
                    if stream.below(9) == 0:
                        undone = course.commands.pop() if course.commands else None
                        self.assertEqual(debate.undo(), undone)
                        continue
                    command = mixed_command(stream, signature, course.assertions())
                    why = course.refusal(command)
                    met[why] = met.get(why, 0) + 1
                    if why is None:
                        course.commands.append(command)
                        self.assertEqual(debate.act(command), len(course.commands))
                    else:
                        error, attribute = (TooLarge, "what") if why == "commands" else (NotPossible, "why")
                        with self.assertRaises(error) as caught:
                            debate.act(command)
                        self.assertEqual(getattr(caught.exception, attribute), why)
                    self.assertEqual(debate.journal(), tuple(course.commands))
                    self.assertEqual(debate.assertions(), course.assertions())
                self.assertEqual(told(debate), told_by(course))
        self.assertEqual(set(met), {None, "many", "self", "missing", "commands"})
        self.assertGreater(min(met.values()), 10)

    def test_by_signature_and_journal_alone(self):
        for debate, course in courses(1231, 4):
            self.assertEqual(told(replayed(course.signature, debate.journal())), told(debate))
            # By another way to the same journal.
            other = Debate(course.signature)
            for command in course.commands:
                other.act(command)
                other.undo()
                other.act(command)
            self.assertEqual(told(other), told(debate))


class Records(Checks):
    """Point 125."""

    def test_ordinary(self):
        debate = debate_with((2, 0), ("assert", 4, SOME), ("assert", 0, NO), ("assert", 4, ALL), ("withdraw", 0))
        self.assertEqual(debate.records(), (
            (("assert", 4, SOME), canonical_model((2, 0), (SOME,))),
            (("assert", 0, NO), ((), (), ())),
            (("assert", 4, ALL), canonical_model((2, 0), (SOME, ALL))),
            (("withdraw", 0), None),
        ))

    def test_sentences_in_their_sequence(self):
        first, second = ("self", "some", 0, True, 0), ("some", 0, 1)
        models = {}
        for sentences in ((first, second), (second, first)):
            debate = debate_with((2, 1), *[("assert", 2, sentence) for sentence in sentences])
            self.assertEqual(debate.records()[1][1], canonical_model((2, 1), sentences))
            models[sentences] = debate.records()[1][1]
        self.assertNotEqual(models[(first, second)], models[(second, first)])

    def test_behind_what_was_withdrawn(self):
        last = ("assert", 0, ("some", 1, 1))
        debate = debate_with((2, 0), ("assert", 0, SOME), ("withdraw", 0), last)
        self.assertEqual(debate.records()[2], (last, canonical_model((2, 0), (("some", 1, 1),))))

    def test_they_are_right(self):
        for debate, course in courses(125, 6):
            records = debate.records()
            self.assertIsInstance(records, tuple)
            self.assertEqual(records, course.records())
            self.assertIs(are_right(course.signature, records), True)
            for at, (command, model) in enumerate(records):
                if command[0] == "assert":
                    said = course.sentences(command[1], at + 1)
                    self.assertEqual(conflicts_of(course.signature, said), ())
                    self.assertIs(accepts_model(course.signature, said, model), True)


if __name__ == "__main__":
    unittest.main()
