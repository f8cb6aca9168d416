"""Signatures, sentences and premises; negations, other voices and what says the same."""

from allsomeno.errors import BadValue

MOST_NOUNS = 4
MOST_VERBS = 2
MOST_PREMISES = 8

QUANTIFIERS = ("all", "some")
OTHER_QUANTIFIER = {"all": "some", "some": "all"}
OPPOSITES = {
    "all": "some not",
    "some not": "all",
    "no": "some",
    "some": "no",
    "as many": "fewer",
    "fewer": "as many",
}
NOUN_WORDS = ("all", "some not", "no", "some", "as many", "fewer")
ALWAYS_TRUE_OF_ITSELF = ("all", "as many")
NEVER_TRUE_OF_ITSELF = ("some not", "fewer")


def is_integer(value, least, most):
    """Whether the value is an integer from the least to the most; True and False are none."""
    return isinstance(value, int) and not isinstance(value, bool) and least <= value <= most


def is_noun(signature, value):
    """Whether the value is a noun of the signature."""
    return is_integer(value, 0, signature[0] - 1)


def is_verb(signature, value):
    """Whether the value is a verb of the signature."""
    return is_integer(value, 0, signature[1] - 1)


def is_signature(value):
    """Whether the value is a signature, a pair (nouns, verbs)."""
    if not isinstance(value, tuple) or len(value) != 2:
        return False
    return is_integer(value[0], 1, MOST_NOUNS) and is_integer(value[1], 0, MOST_VERBS)


def is_sentence(signature, value):
    """Whether the value is a sentence of the signature, which is not checked."""
    if not isinstance(value, tuple) or len(value) == 0:
        return False
    if value[0] == "verb":
        return _is_verb_sentence(signature, value)
    if value[0] == "self":
        return _is_self_sentence(signature, value)
    if value[0] not in NOUN_WORDS or len(value) != 3:
        return False
    return is_noun(signature, value[1]) and is_noun(signature, value[2])


def _is_verb_sentence(signature, value):
    if len(value) != 8:
        return False
    _, q, x, does, v, by, p, y = value
    if q not in QUANTIFIERS or p not in QUANTIFIERS:
        return False
    if not isinstance(does, bool) or not isinstance(by, bool):
        return False
    return is_noun(signature, x) and is_verb(signature, v) and is_noun(signature, y)


def _is_self_sentence(signature, value):
    if len(value) != 5:
        return False
    _, q, x, does, v = value
    if q not in QUANTIFIERS or not isinstance(does, bool):
        return False
    return is_noun(signature, x) and is_verb(signature, v)


def are_premises(signature, value):
    """Whether the value is premises of the signature, which is not checked."""
    if not isinstance(value, tuple) or len(value) > MOST_PREMISES:
        return False
    return all(is_sentence(signature, one) for one in value)


def check_signature(signature):
    """Raise BadValue if it is not a signature."""
    if not is_signature(signature):
        raise BadValue("signature")


def check_sentence(signature, sentence, name):
    """Raise BadValue with the name if it is not a sentence of the signature."""
    if not is_sentence(signature, sentence):
        raise BadValue(name)


def check_premises(signature, premises, name):
    """Raise BadValue with the name if they are not premises of the signature."""
    if not are_premises(signature, premises):
        raise BadValue(name)


def negated(sentence):
    """The negation of a sentence that has been checked."""
    if sentence[0] == "verb":
        _, q, x, does, v, by, p, y = sentence
        return ("verb", OTHER_QUANTIFIER[q], x, not does, v, by, OTHER_QUANTIFIER[p], y)
    if sentence[0] == "self":
        _, q, x, does, v = sentence
        return ("self", OTHER_QUANTIFIER[q], x, not does, v)
    word, x, y = sentence
    return (OPPOSITES[word], x, y)


def _turned(sentence):
    if sentence[0] == "verb":
        _, q, x, does, v, by, p, y = sentence
        # With "all" and "some" the wider scope would change hands, so these have none.
        return ("verb", p, y, does, v, not by, q, x) if q == p else None
    if sentence[0] in ("no", "some"):
        word, x, y = sentence
        return (word, y, x)
    return None


def _told(sentence):
    turned = _turned(sentence)
    if turned is None:
        return sentence
    if sentence[0] == "verb":
        return turned if sentence[5] else sentence
    return min(sentence, turned)


def _is_of_itself(sentence, words):
    return sentence[0] in words and sentence[1] == sentence[2]


def negation(signature, sentence):
    """The sentence that holds in exactly those models in which this one does not."""
    check_signature(signature)
    check_sentence(signature, sentence, "sentence")
    return negated(sentence)


def other_voice(signature, sentence):
    """The turned sentence, or None if there is none."""
    check_signature(signature)
    check_sentence(signature, sentence, "sentence")
    return _turned(sentence)


def told_form(signature, sentence):
    """The told form of the sentence."""
    check_signature(signature)
    check_sentence(signature, sentence, "sentence")
    return _told(sentence)


def say_the_same(signature, first, second):
    """Whether both sentences hold in the same models."""
    check_signature(signature)
    check_sentence(signature, first, "first")
    check_sentence(signature, second, "second")
    for words in (ALWAYS_TRUE_OF_ITSELF, NEVER_TRUE_OF_ITSELF):
        if _is_of_itself(first, words) and _is_of_itself(second, words):
            return True
    return _told(first) == _told(second)
