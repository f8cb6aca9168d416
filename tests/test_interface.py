"""The interface: every name in its own file, with its arguments; and calls that leave no trace (point 2)."""

import importlib
import inspect
import unittest

from allsomeno.debate import Debate

INTERFACE = {
    "sentences": {
        "is_signature": "value", "is_sentence": "signature value", "are_premises": "signature value",
        "negation": "signature sentence", "other_voice": "signature sentence", "told_form": "signature sentence",
        "say_the_same": "signature first second",
    },
    "listed": {
        "count_sentences": "signature", "nth_sentence": "signature index",
        "index_of_sentence": "signature sentence", "renamed": "signature sentence order",
    },
    "models": {
        "is_model": "signature value", "holds": "signature model sentence",
        "first_false": "signature model premises", "count_with": "signature model noun",
        "total_size": "signature model",
    },
    "witnesses": {
        "first_witness": "signature model sentence", "is_witness": "signature model sentence value",
        "expanded": "signature model", "restricted": "signature model groups", "tidied": "signature model",
    },
    "tables": {
        "subsets": "signature premises", "at_least": "signature premises", "nouns_required": "signature premises",
    },
    "kinds": {
        "is_kind": "signature value", "nouns_above": "signature premises kind",
        "kinds_required": "signature premises", "forced_between": "signature premises verb first second",
        "forced_to_itself": "signature premises verb kind",
    },
    "conflicts": {"conflicts": "signature premises", "can_hold": "signature premises"},
    "canonical": {"canonical_model": "signature premises", "accepts_model": "signature premises value"},
    "proofs": {
        "is_fact": "signature value", "follows": "signature premises lines fact",
        "first_wrong": "signature premises lines",
    },
    "proving": {"told_proof": "signature premises"},
    "verdicts": {
        "verdict": "signature premises claim", "verdict_evidence": "signature premises claim",
        "accepts_verdict": "signature premises claim value", "is_consequence": "signature premises claim",
        "consequences": "signature premises index many",
    },
    "reasons": {
        "reasons": "signature premises claim", "is_enough": "signature premises claim",
        "necessary": "signature premises claim", "unused": "signature premises claim",
        "removal": "signature premises claim",
    },
    "grounds": {
        "reasons_evidence": "signature premises claim", "accepts_reasons": "signature premises claim value",
    },
    "comparing": {
        "entails": "signature first second", "are_equivalent": "signature first second",
        "difference": "signature first second", "accepts_difference": "signature first second value",
        "proofs": "signature first second", "accepts_proofs": "signature first second value",
        "needless": "signature premises", "pruned": "signature premises",
    },
    "telling": {
        "told_sentence": "signature first second", "agree": "signature first second",
        "agree_but_for_sizes": "signature first second", "tells_apart": "signature first second value",
        "theory": "signature model", "union": "signature first second",
    },
    "naming": {"are_names": "value"},
    "scanning": {"scan": "text"},
    "reading": {
        "next_tokens": "names text kind", "read_sentence": "names text", "read_premises": "names text",
    },
    "writing": {"sentence_text": "names sentence", "premises_text": "names premises"},
    "journals": {"replayed": "signature journal", "are_right": "signature records"},
}
# The methods of the class Debate, each with its arguments and right values for them.
METHODS = {
    "act": {"command": ("assert", 1, ("some not", 0, 1))}, "undo": {}, "assertions": {}, "sentences": {"speaker": 0},
    "journal": {}, "can_hold": {}, "disputes": {}, "records": {}, "twin": {},
}
ERRORS = {
    "LogicError": None, "BadValue": "name", "TooLarge": "what", "NotPossible": "why", "TextError": "column words",
}
RIGHT_PREMISES = (("all", 0, 1), ("verb", "some", 0, True, 0, False, "all", 1))
RIGHT_MODEL = (((2, (0, 1)), (1, ())), (((0, 1), (1,)),), ((0,),))
RIGHT_JOURNAL = (("assert", 0, ("all", 1, 0)), ("withdraw", 0))
RIGHT = {
    "signature": (2, 1), "sentence": ("no", 1, 0), "first": ("some", 0, 1), "second": ("all", 0, 1), "index": 95,
    "order": (1, 0), "model": RIGHT_MODEL, "noun": 1, "groups": (1,), "premises": RIGHT_PREMISES, "verb": 0,
    "value": ("one", 0),
    "kind": ("one", 1), "lines": (("all", 0, 1), ("one", 0)), "fact": ("clash",), "claim": ("some", 1, 1), "many": 20,
    "text": "all clerk are scribe", "names": (("clerk", "scribe"), ("see",)), "journal": RIGHT_JOURNAL,
    "records": ((RIGHT_JOURNAL[0], RIGHT_MODEL), (RIGHT_JOURNAL[1], None)),
}
# How many functions return lists.
LISTS = 5
# In some modules parameters of the same names stand for values of another kind.
RIGHT_IN = {
    "verdicts": {"index": 0},
    "kinds": {"first": ("one", 0), "second": ("both", 0, 1)},
    "comparing": {"first": RIGHT_PREMISES, "second": (("some", 1, 1), ("no", 0, 0))},
    "reading": {"kind": "sentence"},
    "telling": {"first": RIGHT_MODEL, "second": ((), ((),), ((),)), "value": ("some", 0, 1)},
}


def told(value):
    """What a value is, and for a debate what it tells."""
    return repr((value.journal(), value.assertions(), value.records()) if isinstance(value, Debate) else value)


class Interface(unittest.TestCase):
    def test_every_function_in_its_own_file(self):
        for module, functions in INTERFACE.items():
            found = importlib.import_module("allsomeno." + module)
            for name, parameters in functions.items():
                function = getattr(found, name)
                self.assertEqual(function.__module__, "allsomeno." + module)
                self.assertEqual(list(inspect.signature(function).parameters), parameters.split())

    def test_every_error_in_its_own_file(self):
        errors = importlib.import_module("allsomeno.errors")
        for name, parameters in ERRORS.items():
            error = getattr(errors, name)
            self.assertEqual(error.__module__, "allsomeno.errors")
            if parameters is not None:
                self.assertEqual(list(inspect.signature(error).parameters), parameters.split())

    def calls(self):
        """Each function with right arguments."""
        for module, functions in INTERFACE.items():
            found = importlib.import_module("allsomeno." + module)
            values = {**RIGHT, **RIGHT_IN.get(module, {})}
            for name, parameters in functions.items():
                yield getattr(found, name), [values[parameter] for parameter in parameters.split()]

    def test_the_same_call_returns_equal_results(self):
        for function, arguments in self.calls():
            before = repr(arguments)
            results = [told(function(*arguments)) for _ in range(2)]
            self.assertEqual(*results, function)
            self.assertEqual(repr(arguments), before, function)

    def test_a_returned_list_is_not_used_again(self):
        met = 0
        for function, arguments in self.calls():
            found = function(*arguments)
            if isinstance(found, list):
                met += 1
                told = repr(found)
                self.assertGreater(len(found), 0, function)
                found.clear()
                self.assertEqual(repr(function(*arguments)), told, function)
        self.assertEqual(met, LISTS)

    def test_debates(self):
        self.assertEqual(Debate.__module__, "allsomeno.debate")
        self.assertEqual(list(inspect.signature(Debate).parameters), ["signature"])
        for name, arguments in METHODS.items():
            method = vars(Debate)[name]
            self.assertEqual(list(inspect.signature(method).parameters), ["self"] + list(arguments))
            debates = [Debate((2, 1)), Debate((2, 1))]
            for debate in debates:
                debate.act(("assert", 0, ("all", 0, 1)))
            results = [told(getattr(debate, name)(*arguments.values())) for debate in debates]
            self.assertEqual(*results, name)
            self.assertEqual(told(debates[0]), told(debates[1]))


if __name__ == "__main__":
    unittest.main()
