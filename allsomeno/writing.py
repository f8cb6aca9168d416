"""The texts of sentences and premises."""

from allsomeno.naming import check_names, signature_of
from allsomeno.sentences import check_premises, check_sentence


def _words_with_verb(names, q, x, does, v):
    """The words that say of all or some x that they do the verb, or not."""
    nouns, verbs = names
    return [q, nouns[x], verbs[v]] if does else [q, nouns[x], "not", verbs[v]]


def _words(names, sentence):
    """The words of the sentence, in sequence."""
    word = sentence[0]
    if word == "verb":
        _, q, x, does, v, by, p, y = sentence
        seen = ["by", p, names[0][y]] if by else [p, names[0][y]]
        return _words_with_verb(names, q, x, does, v) + seen
    if word == "self":
        _, q, x, does, v = sentence
        return _words_with_verb(names, q, x, does, v) + ["self"]
    first, second = names[0][sentence[1]], names[0][sentence[2]]
    if word == "as many":
        return ["as", "many", first, "as", second]
    if word == "fewer":
        return ["fewer", first, "than", second]
    if word == "some not":
        return ["some", first, "are", "not", second]
    return [word, first, "are", second]


def _text(names, sentence):
    return " ".join(_words(names, sentence))


def sentence_text(names, sentence):
    """The text of the sentence."""
    check_names(names)
    check_sentence(signature_of(names), sentence, "sentence")
    return _text(names, sentence)


def premises_text(names, premises):
    """The text of the premises."""
    check_names(names)
    check_premises(signature_of(names), premises, "premises")
    return "; ".join([_text(names, sentence) for sentence in premises])
