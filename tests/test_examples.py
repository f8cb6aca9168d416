"""The examples that the interface shows for the modules, as they stand there."""

import doctest
import unittest
from pathlib import Path

README = Path(__file__).resolve().parent.parent / "README.md"

SENTENCES_AND_LISTED = """
>>> from allsomeno.listed import count_sentences, index_of_sentence, nth_sentence, renamed
>>> from allsomeno.sentences import negation, other_voice, say_the_same, told_form
>>> signature = (2, 1)
>>> negation(signature, ("all", 0, 1)), negation(signature, ("verb", "all", 0, True, 0, False, "some", 1))
(('some not', 0, 1), ('verb', 'some', 0, False, 0, False, 'all', 1))
>>> other_voice(signature, ("verb", "all", 0, True, 0, False, "all", 1)), other_voice(signature, ("all", 0, 1)) is None
(('verb', 'all', 1, True, 0, True, 'all', 0), True)
>>> told_form(signature, ("no", 1, 0)), say_the_same(signature, ("all", 0, 0), ("as many", 1, 1)), say_the_same(signature, ("some", 0, 1), ("some", 1, 0))
(('no', 0, 1), True, True)
>>> count_sentences(signature), nth_sentence(signature, 24), index_of_sentence(signature, ("self", "all", 0, True, 0))
(96, ('verb', 'all', 0, True, 0, True, 'all', 0), 88)
>>> renamed(signature, ("verb", "all", 0, True, 0, False, "some", 1), (1, 0)), nth_sentence((4, 0), 95)
(('verb', 'all', 1, True, 0, False, 'some', 0), ('fewer', 3, 3))
"""

MODELS_AND_WITNESSES = """
>>> from allsomeno.models import count_with, first_false, holds, total_size
>>> from allsomeno.witnesses import expanded, first_witness, is_witness, restricted, tidied
>>> signature = (2, 1)
>>> model = (((1, (0, 1)), (1, (0,))), (((1,), ()),), ((),))
>>> holds(signature, model, ("verb", "some", 0, True, 0, False, "some", 0)), holds(signature, model, ("verb", "all", 1, True, 0, False, "some", 0))
(True, True)
>>> holds(signature, model, ("verb", "some", 0, True, 0, False, "all", 0)), holds(signature, model, ("verb", "all", 0, True, 0, True, "some", 1))
(False, False)
>>> first_false(signature, model, (("all", 1, 0), ("as many", 1, 0))), count_with(signature, model, 0), total_size(signature, model)
(1, 2, 2)
>>> first_witness(signature, model, ("all", 0, 1)), is_witness(signature, model, ("some", 0, 1), 0), first_witness(signature, model, ("no", 0, 1))
(1, True, 0)
>>> expanded((1, 1), (((2, (0,)),), (((0,),),), ((),)))
(((1, (0,)), (1, (0,))), (((1,), (0,)),), ((),))
>>> restricted(signature, model, (1,)), tidied((1, 1), (((1, ()),), (((0,),),), ((0,),)))
((((1, (0,)),), (((),),), ((),)), (((1, ()),), (((),),), ((0,),)))
"""

TABLES_AND_KINDS = """
>>> from allsomeno.kinds import forced_between, forced_to_itself, is_kind, kinds_required, nouns_above
>>> from allsomeno.tables import at_least, nouns_required, subsets
>>> signature = (3, 1)
>>> premises = (("all", 0, 1), ("verb", "all", 0, True, 0, False, "some", 1), ("verb", "all", 1, False, 0, False, "all", 1), ("as many", 0, 2), ("some", 2, 2))
>>> subsets(signature, premises), at_least(signature, premises), nouns_required(signature, premises)
(((0, 1),), ((0, 2), (1, 0), (1, 2)), (0, 1, 2))
>>> kinds_required(signature, premises), nouns_above(signature, premises, ("both", 0, 2))
((('one', 0), ('one', 1), ('one', 2)), (0, 1, 2))
>>> forced_between(signature, premises, 0, ("one", 0), ("one", 1)), forced_between(signature, premises, 0, ("one", 2), ("one", 0))
('no', 'free')
>>> subsets((3, 0), (("all", 0, 1), ("all", 1, 2), ("as many", 0, 2)))
((0, 1), (0, 2), (1, 0), (1, 2), (2, 0), (2, 1))
>>> other = (("verb", "some", 0, True, 0, False, "all", 1), ("self", "all", 0, False, 0), ("all", 0, 1))
>>> kinds_required((2, 1), other), forced_to_itself((2, 1), other, 0, ("mark", 0, True, 0, False, 1))
((('one', 0), ('one', 1), ('mark', 0, True, 0, False, 1)), 'both')
>>> is_kind((2, 1), ("both", 1, 0)), is_kind((2, 1), ("self", 1, False, 0))
(False, True)
"""


class Examples(unittest.TestCase):
    def check(self, text, many):
        test = doctest.DocTestParser().get_doctest(text, {}, "DOC.md", "DOC.md", 0)
        self.assertEqual(len(test.examples), many)
        told = []
        results = doctest.DocTestRunner(verbose=False).run(test, out=told.append)
        self.assertEqual(results.failed, 0, "".join(told))

    def test_sentences_and_listed(self):
        self.check(SENTENCES_AND_LISTED, 8)

    def test_models_and_witnesses(self):
        self.check(MODELS_AND_WITNESSES, 10)

    def test_tables_and_kinds(self):
        self.check(TABLES_AND_KINDS, 11)

    def test_readme(self):
        self.check(README.read_text(), 12)


if __name__ == "__main__":
    unittest.main()
