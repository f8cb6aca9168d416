"""The examples that the interface shows for the modules, as they stand there."""

import doctest
import unittest
from pathlib import Path

from allsomeno.errors import TextError
from allsomeno.reading import read_sentence

README = Path(__file__).resolve().parent.parent / "README.md"

SENTENCES_AND_LISTED = """
>>> from allsomeno.listed import count_sentences, index_of_sentence, nth_sentence, renamed
>>> from allsomeno.sentences import negation, other_voice, say_the_same, told_form
>>> signature = (2, 1)
>>> negation(signature, ("all", 0, 1)), negation(signature, ("verb", "all", 0, True, 0, False, "some", 1))
(('some not', 0, 1), ('verb', 'some', 0, False, 0, False, 'all', 1))
>>> other_voice(signature, ("verb", "all", 0, True, 0, False, "all", 1)), other_voice(signature, ("all", 0, 1)) is None
(('verb', 'all', 1, True, 0, True, 'all', 0), True)
>>> told_form(signature, ("no", 1, 0)), say_the_same(signature, ("all", 0, 0), ("as many", 1, 1)), say_the_same(signature, ("some", 0, 1), ("some", 1, 0))
(('no', 0, 1), True, True)
>>> count_sentences(signature), nth_sentence(signature, 24), index_of_sentence(signature, ("self", "all", 0, True, 0))
(96, ('verb', 'all', 0, True, 0, True, 'all', 0), 88)
>>> renamed(signature, ("verb", "all", 0, True, 0, False, "some", 1), (1, 0)), nth_sentence((4, 0), 95)
(('verb', 'all', 1, True, 0, False, 'some', 0), ('fewer', 3, 3))
"""

MODELS_AND_WITNESSES = """
>>> from allsomeno.models import count_with, first_false, holds, total_size
>>> from allsomeno.witnesses import expanded, first_witness, is_witness, restricted, tidied
>>> signature = (2, 1)
>>> model = (((1, (0, 1)), (1, (0,))), (((1,), ()),), ((),))
>>> holds(signature, model, ("verb", "some", 0, True, 0, False, "some", 0)), holds(signature, model, ("verb", "all", 1, True, 0, False, "some", 0))
(True, True)
>>> holds(signature, model, ("verb", "some", 0, True, 0, False, "all", 0)), holds(signature, model, ("verb", "all", 0, True, 0, True, "some", 1))
(False, False)
>>> first_false(signature, model, (("all", 1, 0), ("as many", 1, 0))), count_with(signature, model, 0), total_size(signature, model)
(1, 2, 2)
>>> first_witness(signature, model, ("all", 0, 1)), is_witness(signature, model, ("some", 0, 1), 0), first_witness(signature, model, ("no", 0, 1))
(1, True, 0)
>>> expanded((1, 1), (((2, (0,)),), (((0,),),), ((),)))
(((1, (0,)), (1, (0,))), (((1,), (0,)),), ((),))
>>> restricted(signature, model, (1,)), tidied((1, 1), (((1, ()),), (((0,),),), ((0,),)))
((((1, (0,)),), (((),),), ((),)), (((1, ()),), (((),),), ((0,),)))
"""

TABLES_AND_KINDS = """
>>> from allsomeno.kinds import forced_between, forced_to_itself, is_kind, kinds_required, nouns_above
>>> from allsomeno.tables import at_least, nouns_required, subsets
>>> signature = (3, 1)
>>> premises = (("all", 0, 1), ("verb", "all", 0, True, 0, False, "some", 1), ("verb", "all", 1, False, 0, False, "all", 1), ("as many", 0, 2), ("some", 2, 2))
>>> subsets(signature, premises), at_least(signature, premises), nouns_required(signature, premises)
(((0, 1),), ((0, 2), (1, 0), (1, 2)), (0, 1, 2))
>>> kinds_required(signature, premises), nouns_above(signature, premises, ("both", 0, 2))
((('one', 0), ('one', 1), ('one', 2)), (0, 1, 2))
>>> forced_between(signature, premises, 0, ("one", 0), ("one", 1)), forced_between(signature, premises, 0, ("one", 2), ("one", 0))
('no', 'free')
>>> subsets((3, 0), (("all", 0, 1), ("all", 1, 2), ("as many", 0, 2)))
((0, 1), (0, 2), (1, 0), (1, 2), (2, 0), (2, 1))
>>> other = (("verb", "some", 0, True, 0, False, "all", 1), ("self", "all", 0, False, 0), ("all", 0, 1))
>>> kinds_required((2, 1), other), forced_to_itself((2, 1), other, 0, ("mark", 0, True, 0, False, 1))
((('one', 0), ('one', 1), ('mark', 0, True, 0, False, 1)), 'both')
>>> is_kind((2, 1), ("both", 1, 0)), is_kind((2, 1), ("self", 1, False, 0))
(False, True)
"""

CONFLICTS_AND_CANONICAL = """
>>> from allsomeno.canonical import accepts_model, canonical_model
>>> from allsomeno.conflicts import can_hold, conflicts
>>> premises = (("all", 0, 1), ("fewer", 0, 2), ("some", 0, 0))
>>> conflicts((3, 0), premises), can_hold((3, 0), premises), [size for size, nouns in canonical_model((3, 0), premises)[0]]
((), True, [1, 1, 1, 1, 1, 1, 4, 1, 1])
>>> conflicts((3, 0), premises + (("as many", 0, 2),)), conflicts((1, 0), (("some not", 0, 0),))
((('premise', 1),), (('premise', 0),))
>>> both = (("verb", "all", 0, True, 0, False, "all", 1), ("verb", "all", 0, False, 0, False, "all", 1), ("some", 0, 1))
>>> conflicts((2, 1), both)[:2], len(conflicts((2, 1), both)), conflicts((2, 1), both)[-1]
((('pair', 0, ('one', 0), ('one', 1)), ('pair', 0, ('one', 0), ('both', 0, 1))), 5, ('self', 0, ('both', 0, 1)))
>>> canonical_model((1, 1), (("some", 0, 0), ("self", "all", 0, False, 0), ("verb", "all", 0, True, 0, False, "some", 0)))
(((1, (0,)), (1, (0,)), (1, (0,))), (((1,), (2,), (0,)),), ((),))
>>> accepts_model((1, 0), (("some", 0, 0),), (((1, (0,)),), (), ())), accepts_model((1, 0), (("some", 0, 0),), ((), (), ()))
(True, False)
"""

PROOFS_AND_PROVING = """
>>> from allsomeno.proofs import first_wrong, follows, is_fact
>>> from allsomeno.proving import told_proof
>>> premises = (("all", 0, 1), ("all", 1, 2), ("as many", 0, 2), ("some not", 2, 0))
>>> told_proof((3, 0), premises)
(('all', 0, 1), ('all', 1, 2), ('as many', 0, 2), ('all', 0, 2), ('all', 2, 0), ('clash',))
>>> first_wrong((3, 0), premises, told_proof((3, 0), premises)), first_wrong((3, 0), premises, (("all", 0, 1), ("all", 0, 2), ("clash",)))
(None, 1)
>>> told_proof((3, 0), premises[:3]) is None, first_wrong((3, 0), premises, ()), follows((3, 0), premises, (("all", 0, 2),), ("as many", 2, 0))
(True, 0, True)
>>> seeing = (("verb", "some", 0, True, 0, False, "all", 1), ("self", "all", 0, False, 0), ("all", 0, 1))
>>> told_proof((2, 1), seeing), is_fact((2, 1), ("both", 1, 0)), is_fact((2, 1), ("clash",))
((('all', 0, 1), ('mark', 0, True, 0, False, 1), ('clash',)), False, True)
"""

VERDICTS = """
>>> from allsomeno.verdicts import accepts_verdict, consequences, is_consequence, verdict, verdict_evidence
>>> chain = (("all", 0, 1), ("all", 1, 2))
>>> verdict((3, 0), chain, ("all", 0, 2)), verdict((3, 0), chain, ("as many", 2, 0)), verdict((3, 0), chain[:1], ("some", 0, 1))
('entailed', 'entailed', 'open')
>>> verdict((2, 0), (("no", 0, 0),), ("some", 0, 1)), verdict((2, 0), (("no", 0, 0), ("some", 0, 1)), ("all", 0, 0))
('refuted', 'no model')
>>> [verdict_evidence((3, 0), chain, claim)[0] for claim in (("all", 0, 2), ("some not", 0, 2), ("some", 0, 1))]
['entailed', 'refuted', 'open']
>>> accepts_verdict((3, 0), chain, ("all", 0, 2), verdict_evidence((3, 0), chain, ("all", 0, 2))), accepts_verdict((2, 0), (("all", 0, 1),), ("some", 0, 1), ("open", (((1, (0, 1)),), (), ()), ((), (), ())))
(True, True)
>>> is_consequence((1, 0), (), ("all", 0, 0)), is_consequence((2, 0), (("all", 0, 1),), ("some", 0, 1)), consequences((1, 0), (), 0, 2)
(True, False, [('all', 0, 0), ('as many', 0, 0)])
"""

REASONS_AND_GROUNDS = """
>>> from allsomeno.grounds import accepts_reasons, reasons_evidence
>>> from allsomeno.reasons import is_enough, necessary, reasons, removal, unused
>>> four = (("all", 0, 1), ("all", 1, 2), ("no", 2, 0), ("some", 0, 1))
>>> reasons((3, 0), four, None), necessary((3, 0), four, None), unused((3, 0), four, None), removal((3, 0), four, None)
([(1, 2, 3)], (1, 2, 3), (0,), (1,))
>>> reasons((3, 0), four, ("all", 0, 2)), necessary((3, 0), four, ("all", 0, 2)), unused((3, 0), four, ("all", 0, 2)), removal((3, 0), four, ("all", 0, 2))
([(0, 1), (1, 2, 3)], (1,), (), (1,))
>>> two = (("some", 0, 1), ("some", 0, 2))
>>> reasons((3, 0), two, ("some", 0, 0)), removal((3, 0), two, ("some", 0, 0)), reasons((3, 0), two, ("all", 0, 0)), removal((3, 0), two, ("all", 0, 0))
([(0,), (1,)], (0, 1), [()], None)
>>> is_enough((3, 0), two, ("some", 1, 2)), reasons((3, 0), two, ("some", 1, 2)), removal((3, 0), two, ("some", 1, 2))
(False, [], ())
>>> told = reasons_evidence((3, 0), four, ("all", 0, 2))
>>> told[0], len(told[1]), accepts_reasons((3, 0), four, ("all", 0, 2), told), accepts_reasons((3, 0), four, ("all", 0, 2), (told[0][:1], told[1][:1], told[2]))
(((0, 1), (1, 2, 3)), 2, True, False)
"""

COMPARING = """
>>> from allsomeno.comparing import accepts_difference, accepts_proofs, are_equivalent, difference, entails, needless, proofs, pruned
>>> chain, ends = (("all", 0, 1), ("all", 1, 2)), (("all", 0, 2), ("as many", 2, 0))
>>> entails((3, 0), chain, ends), entails((3, 0), ends, chain), difference((3, 0), chain, ends) is None, difference((3, 0), ends, chain)[0]
(True, False, True, 0)
>>> accepts_difference((3, 0), ends, chain, (0, (((1, (0, 2)),), (), ()))), accepts_difference((3, 0), ends, chain, (1, (((1, (0, 2)),), (), ())))
(True, False)
>>> accepts_proofs((3, 0), chain, ends, proofs((3, 0), chain, ends)), proofs((3, 0), ends, chain) is None, proofs((3, 0), chain, ())
(True, True, ())
>>> needless((3, 0), chain + ends), pruned((3, 0), chain + ends), are_equivalent((3, 0), chain, chain + ends), needless((2, 0), (("all", 0, 1), ("all", 0, 1)))
((2, 3), (('all', 0, 1), ('all', 1, 2)), True, (0, 1))
"""

TELLING = """
>>> from allsomeno.telling import agree, agree_but_for_sizes, tells_apart, theory, told_sentence, union
>>> one, two, other = (((1, (0,)),), (), ()), (((2, (0,)),), (), ()), (((1, (0,)), (2, (1,))), (), ())
>>> agree((2, 0), one, two), agree((2, 0), one, other), tells_apart((2, 0), one, other, ("some", 1, 1)), tells_apart((2, 0), one, other, ("some", 0, 0))
(True, False, True, False)
>>> union((2, 0), one, other), agree_but_for_sizes((2, 0), other, union((2, 0), other, two)), agree((2, 0), other, union((2, 0), other, two))
((((1, (0,)), (1, (0,)), (2, (1,))), (), ()), True, False)
>>> len(theory((1, 0), one)), told_sentence((1, 0), one, two) is None, told_sentence((1, 0), one, ((), (), ())) is None
(3, True, False)
"""

READING_AND_WRITING = """
>>> from allsomeno.reading import next_tokens, read_premises, read_sentence
>>> from allsomeno.writing import premises_text, sentence_text
>>> names = (("clerk", "scribe"), ("see",))
>>> read_sentence(names, "all clerk see some scribe"), read_sentence(names, "some clerk not see by all clerk")
(('verb', 'all', 0, True, 0, False, 'some', 1), ('verb', 'some', 0, False, 0, True, 'all', 0))
>>> read_premises(names, "no clerk are scribe; some scribe are not clerk; all scribe not see self")
(('no', 0, 1), ('some not', 1, 0), ('self', 'all', 1, False, 0))
>>> sentence_text(names, ("as many", 1, 0)), premises_text(names, (("fewer", 0, 1), ("self", "some", 0, True, 0))), read_premises(names, "")
('as many scribe as clerk', 'fewer clerk than scribe; some clerk see self', ())
>>> next_tokens(names, "all clerk", "sentence"), next_tokens(names, "some clerk are", "sentence"), next_tokens(names, "", "premises")
(['a verb', '"not"', '"are"'], ['a noun', '"not"'], ['"all"', '"some"', '"no"', '"as"', '"fewer"', 'the end'])
"""

DEBATES = """
>>> from allsomeno.debate import Debate
>>> from allsomeno.journals import are_right, replayed
>>> debate = Debate((3, 0))
>>> debate.act(("assert", 0, ("all", 0, 1))), debate.act(("assert", 1, ("some not", 0, 1))), debate.disputes(), debate.can_hold()
(1, 2, ((0, 1),), False)
>>> debate.act(("assert", 2, ("no", 0, 2))), debate.disputes(), debate.act(("withdraw", 1)), debate.disputes(), debate.assertions()
(3, ((0, 1),), 4, (), ((0, ('all', 0, 1)), (2, ('no', 0, 2))))
>>> debate.undo(), debate.sentences(1), are_right((3, 0), debate.records()), replayed((3, 0), debate.journal()).disputes()
(('withdraw', 1), (('some not', 0, 1),), True, ((0, 1),))
>>> are_right((1, 0), ((("assert", 4, ("some", 0, 0)), (((3, (0,)),), (), ())), (("withdraw", 0), None))), are_right((1, 0), ((("assert", 4, ("some", 0, 0)), ((), (), ())),))
(True, False)
"""


class Examples(unittest.TestCase):
    def check(self, text, many):
        test = doctest.DocTestParser().get_doctest(text, {}, "DOC.md", "DOC.md", 0)
        self.assertEqual(len(test.examples), many)
        told = []
        results = doctest.DocTestRunner(verbose=False).run(test, out=told.append)
        self.assertEqual(results.failed, 0, "".join(told))

    def test_sentences_and_listed(self):
        self.check(SENTENCES_AND_LISTED, 8)

    def test_models_and_witnesses(self):
        self.check(MODELS_AND_WITNESSES, 10)

    def test_tables_and_kinds(self):
        self.check(TABLES_AND_KINDS, 11)

    def test_conflicts_and_canonical(self):
        self.check(CONFLICTS_AND_CANONICAL, 9)

    def test_proofs_and_proving(self):
        self.check(PROOFS_AND_PROVING, 8)

    def test_verdicts(self):
        self.check(VERDICTS, 7)

    def test_reasons_and_grounds(self):
        self.check(REASONS_AND_GROUNDS, 10)

    def test_comparing(self):
        self.check(COMPARING, 6)

    def test_telling(self):
        self.check(TELLING, 5)

    def test_reading_and_writing(self):
        self.check(READING_AND_WRITING, 7)
        with self.assertRaises(TextError) as caught:
            read_sentence((("a", "b"), ()), "all a are c")
        self.assertEqual((caught.exception.column, caught.exception.words), (11, "expected a noun"))

    def test_debates(self):
        self.check(DEBATES, 7)

    def test_readme(self):
        self.check(README.read_text(), 42)


if __name__ == "__main__":
    unittest.main()
