"""Sentences and premises read from texts, and what can come behind the beginning of a text."""

from allsomeno.errors import BadValue, TextError
from allsomeno.grammar import KINDS, forms_of, part_of_speech, told_problem, told_words, what_can_come
from allsomeno.naming import check_names
from allsomeno.scanning import SIGN, check_text, tokens_of
from allsomeno.sentences import MOST_PREMISES


class Walk:
    """A way through the grammar, token by token: the sentences so far, the last one of them perhaps only begun."""

    def __init__(self, names, kind):
        self.names = names
        self.kind = kind
        self.forms = forms_of(names)
        # The tokens of each sentence, without the signs between them and the end.
        self.told = [[]]

    def can_come(self):
        """What can come now, in order."""
        begun = tuple([part_of_speech(self.names, token) for token in self.told[-1]])
        return what_can_come(self.forms, self.kind, begun, len(self.told) == 1)

    def take(self, token):
        """Go on over the token, or raise TextError if it cannot come."""
        kind, characters, column = token
        possible = self.can_come()
        if part_of_speech(self.names, token) not in possible:
            raise TextError(column, told_problem(possible))
        if characters == SIGN:
            self.told.append([])
        elif kind != "end":
            self.told[-1].append(token)


def _walked(names, kind, tokens):
    walk = Walk(names, kind)
    for token in tokens:
        walk.take(token)
    return walk


def _sentence_of(names, tokens):
    """The sentence with these tokens, which follow the grammar."""
    words = [characters for _, characters, _ in tokens]
    nouns = [names[0].index(word) for word in words if word in names[0]]
    verbs = [names[1].index(word) for word in words if word in names[1]]
    if verbs == []:
        x, y = nouns
        return (_word_of(words), x, y)
    q, does, v = words[0], "not" not in words, verbs[0]
    if words[-1] == "self":
        return ("self", q, nouns[0], does, v)
    # The last but one is "all" or "some", ahead of the second noun.
    return ("verb", q, nouns[0], does, v, "by" in words, words[-2], nouns[1])


def _word_of(words):
    """The first item of a sentence without a verb."""
    if words[0] == "as":
        return "as many"
    return "some not" if "not" in words else words[0]


def next_tokens(names, text, kind):
    """The list of what can come behind the tokens of the text, the beginning of a text of this kind."""
    check_names(names)
    check_text(text)
    if kind not in KINDS:
        raise BadValue("kind")
    # The end of what is only a beginning is not a token that has to be possible.
    tokens = tokens_of(text)[:-1]
    return told_words(_walked(names, kind, tokens).can_come())


def read_sentence(names, text):
    """The sentence of which this is a text."""
    check_names(names)
    check_text(text)
    return _sentence_of(names, _walked(names, "sentence", tokens_of(text)).told[0])


def read_premises(names, text):
    """The premises of which this is a text."""
    check_names(names)
    check_text(text)
    told = _walked(names, "premises", tokens_of(text)).told
    if len(told) > MOST_PREMISES:
        _, _, column = told[MOST_PREMISES][0]
        raise TextError(column, f"there are at most {MOST_PREMISES} sentences")
    return tuple([_sentence_of(names, tokens) for tokens in told if tokens != []])
