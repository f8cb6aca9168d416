"""Points 111 to 114 and 116 to 118: sentences and premises read from texts, and what can come in a text."""

import unittest

from allsomeno.errors import BadValue, TextError
from allsomeno.reading import next_tokens, read_premises, read_sentence

from tests.checking import SIGNATURES, VALUES, check_refusals, sentences_of
from tests.reference import Stream, mixed_premises
from tests.speech import NAMES, NOT_HERE, RESERVED, TOO_LONG, TOO_MANY, next_by, problem_by, scanned, text_by

CLERKS = NAMES[(2, 1)]
NO_VERBS = NAMES[(2, 0)]
# Each form of a sentence, with its text.
FORMS = (
    ("all clerk are scribe", ("all", 0, 1)),
    ("some clerk are not scribe", ("some not", 0, 1)),
    ("no clerk are scribe", ("no", 0, 1)),
    ("some clerk are scribe", ("some", 0, 1)),
    ("as many clerk as scribe", ("as many", 0, 1)),
    ("fewer clerk than scribe", ("fewer", 0, 1)),
    ("all clerk see self", ("self", "all", 0, True, 0)),
    ("some clerk see self", ("self", "some", 0, True, 0)),
    ("all clerk not see self", ("self", "all", 0, False, 0)),
    ("some scribe not see self", ("self", "some", 1, False, 0)),
    ("all clerk see some scribe", ("verb", "all", 0, True, 0, False, "some", 1)),
    ("all clerk see all scribe", ("verb", "all", 0, True, 0, False, "all", 1)),
    ("some clerk see all scribe", ("verb", "some", 0, True, 0, False, "all", 1)),
    ("some scribe not see some clerk", ("verb", "some", 1, False, 0, False, "some", 0)),
    ("all clerk see by some scribe", ("verb", "all", 0, True, 0, True, "some", 1)),
    ("some clerk not see by all clerk", ("verb", "some", 0, False, 0, True, "all", 0)),
)
Q_WORDS = ['"all"', '"some"']
FIRST_WORDS = Q_WORDS + ['"no"', '"as"', '"fewer"']
NO_SENTENCE = 'expected "all", "some", "no", "as" or "fewer"'
BEHIND_VERB = Q_WORDS + ['"by"', '"self"']
WRONG_NAMES = (
    None, True, 0, "", (), ("clerk",), (("clerk", "scribe"),), [("clerk",), ()], (["clerk"], ()), (("clerk",), []),
    ((), ("see",)), (("clerk",) * 2, ()), (("clerk", "see"), ("see",)), (("a", "b", "c", "d", "e"), ()),
    (("a",), ("b", "c", "d")), (("all",), ()), (("a",), ("by",)), (("Clerk",), ()), (("",), ()), (("abcdefghi",), ()),
    ((0,), ()), ("a", ()),
)
WRONG_TEXTS = (None, True, 0, (), ["all"], b"all", "\n", "all clerk are scribe\n", " " * 601, "A" * 601)


class Checks(unittest.TestCase):
    def check_problem(self, function, arguments, column, words):
        with self.assertRaises(TextError) as caught:
            function(*arguments)
        self.assertEqual((caught.exception.column, caught.exception.words), (column, words), arguments)

    def check_next(self, names, text, kind):
        found = next_by(names, text, kind)
        if isinstance(found, tuple):
            self.check_problem(next_tokens, (names, text, kind), *found)
        else:
            self.assertEqual(next_tokens(names, text, kind), found, text)
        return found

    def check_read(self, names, text):
        """Both kinds of texts, against the grammar that the tests work out themselves."""
        for function, kind in ((read_sentence, "sentence"), (read_premises, "premises")):
            problem = problem_by(names, text, kind)
            if problem is None:
                function(names, text)
            else:
                self.check_problem(function, (names, text), *problem)


class Sentences(Checks):
    """Points 112 and 118."""

    def test_each_form(self):
        for text, sentence in FORMS:
            self.assertEqual(read_sentence(CLERKS, text), sentence)
            self.assertEqual(read_premises(CLERKS, text), (sentence,))

    def test_of_the_interface(self):
        text = "no clerk are scribe; some scribe are not clerk; all scribe not see self"
        self.assertEqual(
            read_premises(CLERKS, text), (("no", 0, 1), ("some not", 1, 0), ("self", "all", 1, False, 0)))
        self.check_problem(read_sentence, ((("a", "b"), ()), "all a are c"), 11, "expected a noun")

    def test_each_sentence_of_each_signature(self):
        for signature in SIGNATURES:
            for sentence in sentences_of(signature):
                found = read_sentence(NAMES[signature], text_by(NAMES[signature], sentence))
                self.assertEqual(found, sentence)
                self.assertEqual([type(item) for item in found], [type(item) for item in sentence])

    def test_names_stand_for_their_index(self):
        for nouns in (("a", "b"), ("b", "a")):
            for verbs in (("c", "d"), ("d", "c")):
                found = read_sentence((nouns, verbs), "all a d some b")
                x, v, y = nouns.index("a"), verbs.index("d"), nouns.index("b")
                self.assertEqual(found, ("verb", "all", x, True, v, False, "some", y))

    def test_names_near_to_reserved_words(self):
        names = (("alls", "bys", "selfs", "nots"), ("ares", "manys"))
        found = read_sentence(names, "all alls ares by some selfs")
        self.assertEqual(found, ("verb", "all", 0, True, 0, True, "some", 2))
        self.assertEqual(read_sentence(names, "as many nots as bys"), ("as many", 3, 1))
        self.check_problem(read_sentence, (names, "all alls are"), 13, "expected a noun")
        self.check_problem(read_sentence, (names, "all alls ares self s"), 20, "expected the end")

    def test_premises_of_each_number(self):
        for many in range(9):
            text = ";".join(["some clerk are scribe"] * many)
            self.assertEqual(read_premises(CLERKS, text), (("some", 0, 1),) * many)
        self.assertEqual(read_premises(CLERKS, "    "), ())
        self.assertEqual(read_premises(CLERKS, ""), ())

    def test_blanks(self):
        stream = Stream(116)
        for signature in SIGNATURES:
            names, sentences = NAMES[signature], sentences_of(signature)
            for _ in range(12):
                premises = mixed_premises(sentences, stream, 4)
                words = [characters for _, characters, _ in scanned("; ".join(text_by(names, one) for one in premises))]
                text = " " * stream.below(4)
                for word in words:
                    text += (word if word == ";" else " " + word) + " " * stream.below(4)
                self.assertEqual(read_premises(names, text), premises)
                for one in premises[:1]:
                    text = text_by(names, one)
                    self.assertEqual(read_sentence(names, "  " + text.replace(" ", "   ") + "    "), one)
        self.assertEqual(read_premises(CLERKS, "no clerk are scribe;no scribe are clerk"), (("no", 0, 1), ("no", 1, 0)))
        self.check_problem(read_sentence, (CLERKS, "allclerk are scribe"), 1, NO_SENTENCE)

    def test_six_hundred_characters(self):
        text = "some clerk are scribe" + " " * 579
        self.assertEqual(len(text), 600)
        self.assertEqual(read_sentence(CLERKS, text), ("some", 0, 1))
        self.assertEqual(read_premises(CLERKS, text), (("some", 0, 1),))
        self.assertEqual(next_tokens(CLERKS, text, "sentence"), ["the end"])
        self.check_problem(read_sentence, (CLERKS, "some clerk are" + " " * 586), 601, 'expected a noun or "not"')


class NextTokens(Checks):
    """Point 113."""

    def check(self, text, kind, found, names=CLERKS):
        self.assertEqual(next_tokens(names, text, kind), found)
        self.assertEqual(next_tokens(names, "  " + text + "   ", kind), found)
        self.check_next(names, text, kind)

    def test_at_each_place(self):
        starts = (("sentence", ""), ("premises", "no clerk are scribe; "), ("premises", "all clerk see self;"))
        for kind, start in starts:
            end = ["the end"] if kind == "sentence" else ['";"', "the end"]
            for text, found in (
                ("", FIRST_WORDS), ("all", ["a noun"]), ("all clerk", ["a verb", '"not"', '"are"']),
                ("all clerk are", ["a noun"]), ("all clerk are clerk", end), ("some", ["a noun"]),
                ("some clerk", ["a verb", '"not"', '"are"']), ("some clerk are", ["a noun", '"not"']),
                ("some clerk are not", ["a noun"]), ("some clerk are not scribe", end), ("no", ["a noun"]),
                ("no clerk", ['"are"']), ("no clerk are", ["a noun"]), ("no clerk are scribe", end), ("as", ['"many"']),
                ("as many", ["a noun"]), ("as many clerk", ['"as"']), ("as many clerk as", ["a noun"]),
                ("as many clerk as clerk", end), ("fewer", ["a noun"]), ("fewer clerk", ['"than"']),
                ("fewer clerk than", ["a noun"]), ("fewer clerk than scribe", end), ("all clerk not", ["a verb"]),
                ("some clerk not", ["a verb"]), ("all clerk see", BEHIND_VERB), ("some clerk not see", BEHIND_VERB),
                ("all clerk see self", end), ("all clerk see by", Q_WORDS), ("all clerk see all", ["a noun"]),
                ("all clerk see by some", ["a noun"]), ("all clerk see some clerk", end),
                ("all clerk not see by all clerk", end),
            ):
                self.check(start + text, kind, found)

    def test_premises_of_no_sentence(self):
        self.check("", "premises", FIRST_WORDS + ["the end"])
        self.check("", "sentence", FIRST_WORDS)
        self.check("all clerk see self;", "premises", FIRST_WORDS)

    def test_without_verbs(self):
        for text, found in (
            ("all clerk", ['"are"']), ("some clerk", ['"are"']), ("some clerk are", ["a noun", '"not"']),
            ("no clerk", ['"are"']), ("some clerk are not", ["a noun"]), ("", FIRST_WORDS),
            ("all clerk are scribe", ["the end"]),
        ):
            self.check(text, "sentence", found, NO_VERBS)
        for text, column in (("all clerk not", 11), ("some clerk not scribe", 12), ("all clerk see", 11)):
            self.check_problem(next_tokens, (NO_VERBS, text, "sentence"), column, 'expected "are"')
            self.check_problem(read_sentence, (NO_VERBS, text), column, 'expected "are"')
            self.check_problem(read_premises, (NO_VERBS, text), column, 'expected "are"')

    def test_behind_however_many_sentences(self):
        for many in range(1, 25):
            text = ";".join(["no clerk are scribe"] * many)
            self.check(text, "premises", ['";"', "the end"])
            self.check(text + ";", "premises", FIRST_WORDS)
            self.check(text + ";all clerk", "premises", ["a verb", '"not"', '"are"'])

    def test_what_is_no_beginning(self):
        for text, kind, column, words in (
            ("clerk", "sentence", 1, NO_SENTENCE),
            ("clerk", "premises", 1, 'expected "all", "some", "no", "as", "fewer" or the end'),
            (";", "sentence", 1, NO_SENTENCE),
            (";", "premises", 1, 'expected "all", "some", "no", "as", "fewer" or the end'),
            ("all clerk see self;;", "premises", 20, NO_SENTENCE),
            ("all clerk see self; all clerk", "sentence", 19, "expected the end"),
            ("all clerk see self all", "premises", 20, 'expected ";" or the end'),
            ("all clerk scribe", "sentence", 11, 'expected a verb, "not" or "are"'),
            ("all clerk see scribe", "sentence", 15, 'expected "all", "some", "by" or "self"'),
            ("all clerk see by self", "sentence", 18, 'expected "all" or "some"'),
            ("all clerk not are", "sentence", 15, "expected a verb"), ("all see", "sentence", 5, "expected a noun"),
            ("all clerk are not", "sentence", 15, "expected a noun"), ("as clerk", "sentence", 4, 'expected "many"'),
            ("some clerk are all", "sentence", 16, 'expected a noun or "not"'),
            ("no clerk not", "sentence", 10, 'expected "are"'), ("all king", "sentence", 5, "expected a noun"),
        ):
            self.check_problem(next_tokens, (CLERKS, text, kind), column, words)
            self.check_problem(next_tokens, (CLERKS, text + "  all", kind), column, words)
            self.check_next(CLERKS, text, kind)

    def test_a_list_of_ones_own(self):
        next_tokens(CLERKS, "all clerk", "sentence").clear()
        self.assertEqual(next_tokens(CLERKS, "all clerk", "sentence"), ["a verb", '"not"', '"are"'])

    def test_each_token_at_each_place(self):
        # From the beginning of a text, each token that can come leads on to the next places.
        for names in (CLERKS, NO_VERBS, NAMES[(1, 2)]):
            words = RESERVED + (";", "king") + names[0][:1] + names[1][:1]
            for kind, starts in (("sentence", [""]), ("premises", ["", "no clerk are clerk;"])):
                texts, met = list(starts), 0
                while texts:
                    text = texts.pop()
                    self.assertIsInstance(self.check_next(names, text, kind), list)
                    for word in words:
                        longer = text + " " + word
                        met += 1
                        if isinstance(self.check_next(names, longer, kind), list) and word != ";":
                            texts.append(longer)
                self.assertGreater(met, 200)


class Problems(Checks):
    """Points 110, 113 and 114."""

    def test_a_text_that_ends_at_each_place(self):
        for text, _ in FORMS:
            words = text.split(" ")
            for many in range(len(words)):
                begun = " ".join(words[:many])
                for ending in ("", "   "):
                    self.check_read(CLERKS, begun + ending)
                    found = next_tokens(CLERKS, begun, "sentence")
                    with self.assertRaises(TextError) as caught:
                        read_sentence(CLERKS, begun + ending)
                    self.assertEqual(caught.exception.column, len(begun + ending) + 1)
                    one = "expected " + found[0]
                    several = "expected " + ", ".join(found[:-1]) + " or " + found[-1]
                    self.assertEqual(caught.exception.words, one if len(found) == 1 else several)

    def test_a_token_of_each_kind_at_each_place(self):
        for text, _ in FORMS:
            words = text.split(" ")
            for at in range(len(words) + 1):
                for word in RESERVED + (";", "king", "clerk", "see"):
                    self.check_read(CLERKS, " ".join(words[:at] + [word] + words[at:]))
                    self.check_read(CLERKS, " ".join(words[:at] + [word] + words[at + 1:]))
                    self.check_read(NO_VERBS, " ".join(words[:at] + [word]))

    def test_problems_of_tokens_come_first(self):
        for text, column, words in (
            ("clerk clerk A", 13, NOT_HERE), ("all all abcdefghi 7", 9, TOO_LONG), (";; ;.", 5, NOT_HERE),
            ("all clerk are scribe scribe\t", 28, NOT_HERE), ("all clerk are scribe see\rsee", 25, NOT_HERE),
            ("no no abcdefghij", 7, TOO_LONG), (";".join(["no clerk are scribe"] * 9) + "!", 180, NOT_HERE),
        ):
            for function, arguments in (
                (read_sentence, (CLERKS, text)), (read_premises, (CLERKS, text)),
                (next_tokens, (CLERKS, text, "sentence")), (next_tokens, (CLERKS, text, "premises")),
            ):
                self.check_problem(function, arguments, column, words)

    def test_behind_a_sentence(self):
        self.check_problem(read_sentence, (CLERKS, "all clerk see self;"), 19, "expected the end")
        self.check_problem(read_premises, (CLERKS, "all clerk see self;"), 20, NO_SENTENCE)
        self.check_problem(read_premises, (CLERKS, "all clerk see self; ; "), 21, NO_SENTENCE)
        self.check_problem(read_sentence, (CLERKS, "all clerk see self scribe"), 20, "expected the end")
        self.check_problem(read_premises, (CLERKS, "all clerk see self scribe"), 20, 'expected ";" or the end')
        self.check_problem(read_sentence, (CLERKS, ""), 1, NO_SENTENCE)

    def test_eight_sentences_and_more(self):
        one = "no clerk are scribe"
        for many in (9, 10, 11, 25):
            for between in (";", " ; "):
                text = between.join([one] * many)
                column = 8 * len(one + between) + 1
                self.check_problem(read_premises, (CLERKS, text), column, TOO_MANY)
                self.check_problem(read_premises, (CLERKS, text + "   "), column, TOO_MANY)
                self.check_problem(read_premises, (CLERKS, "  " + text), column + 2, TOO_MANY)
                self.check_read(CLERKS, text)
                self.check_problem(read_sentence, (CLERKS, text), len(one) + between.index(";") + 1, "expected the end")
        self.assertEqual(read_premises(CLERKS, ";".join([one] * 8)), (("no", 0, 1),) * 8)

    def test_what_is_against_the_grammar_comes_ahead_of_too_many(self):
        nine = ";".join(["no clerk are scribe"] * 9)
        self.check_problem(read_premises, (CLERKS, nine + ";"), 181, NO_SENTENCE)
        self.check_problem(read_premises, (CLERKS, nine + " no"), 181, 'expected ";" or the end')
        self.check_problem(read_premises, (CLERKS, nine + ";no clerk clerk"), 190, 'expected "are"')
        self.check_problem(read_premises, (CLERKS, nine[:-7]), 173, "expected a noun")
        self.check_problem(read_premises, (CLERKS, nine[:160]), 161, NO_SENTENCE)
        self.check_problem(read_premises, (CLERKS, nine[:161]), 161, NO_SENTENCE)

    def test_many_texts(self):
        stream, met = Stream(113), {True: 0, False: 0}
        for signature in SIGNATURES:
            names, sentences = NAMES[signature], sentences_of(signature)
            words = RESERVED + (";", "king", "A", "abcdefghi") + names[0] + names[1]
            for _ in range(120):
                premises = mixed_premises(sentences, stream, 10)
                told = " ; ".join(text_by(names, one) for one in premises).split(" ")
                for _ in range(stream.below(3)):
                    at = stream.below(len(told) + 1)
                    told[at:at + stream.below(2)] = [words[stream.below(len(words))]]
                text = (" " * (1 + stream.below(2))).join(told)
                if len(text) <= 600:
                    met[problem_by(names, text, "premises") is None] += 1
                    self.check_read(names, text)
                    self.check_next(names, text, ("sentence", "premises")[stream.below(2)])
        self.assertGreater(min(met.values()), 300)


class Refusals(Checks):
    """Point 117."""

    names = ("names", CLERKS, WRONG_NAMES)
    text = ("text", "all clerk are scribe", WRONG_TEXTS)
    kind = ("kind", "sentence", ("", "Sentence", "premise", "texts", None, True, 0, (), ["sentence"], ("sentence",)))

    def test_each_function(self):
        check_refusals(self, read_sentence, self.names, self.text)
        check_refusals(self, read_premises, self.names, self.text)
        check_refusals(self, next_tokens, self.names, self.text, self.kind)
        check_refusals(self, next_tokens, self.names, ("text", "", WRONG_TEXTS), ("kind", "premises", VALUES))

    def test_wrong_arguments_come_ahead_of_problems(self):
        for arguments, name in (
            ((None, "A", "sentence"), "names"), ((CLERKS, "A\n", "sentence"), "text"), ((CLERKS, "A", "all"), "kind"),
            ((CLERKS, "clerk", None), "kind"), ((CLERKS, "abcdefghi", 0), "kind"),
        ):
            with self.assertRaises(BadValue) as caught:
                next_tokens(*arguments)
            self.assertEqual(caught.exception.name, name)
        for function in (read_sentence, read_premises):
            with self.assertRaises(BadValue) as caught:
                function((("all",), ()), "A")
            self.assertEqual(caught.exception.name, "names")


if __name__ == "__main__":
    unittest.main()
