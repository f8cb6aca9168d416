"""All sentences of a signature in their order, and sentences renamed."""

from allsomeno.errors import BadValue
from allsomeno.sentences import QUANTIFIERS, check_sentence, check_signature, is_integer, is_noun

WORDS = ("all", "some not", "no", "some", "as many", "fewer", "verb", "self")
TRUE_FIRST = (True, False)


def _choices(signature, word):
    """What each item behind the word can be, in order, for each place of such a sentence."""
    nouns = tuple(range(signature[0]))
    verbs = tuple(range(signature[1]))
    if word == "verb":
        return (QUANTIFIERS, nouns, TRUE_FIRST, verbs, TRUE_FIRST, QUANTIFIERS, nouns)
    if word == "self":
        return (QUANTIFIERS, nouns, TRUE_FIRST, verbs)
    return (nouns, nouns)


def _count_with_word(signature, word):
    many = 1
    for choice in _choices(signature, word):
        many *= len(choice)
    return many


def _count_all(signature):
    return sum(_count_with_word(signature, word) for word in WORDS)


def _sentence_with_word(signature, word, index):
    """The sentence with this index among those with the word."""
    items = []
    rest = index
    # The last place changes fastest, so it is taken off the index first.
    for choice in reversed(_choices(signature, word)):
        items.append(choice[rest % len(choice)])
        rest //= len(choice)
    return (word,) + tuple(items[::-1])


def _index_with_word(signature, sentence):
    """The index of the sentence among those with its word."""
    index = 0
    for choice, item in zip(_choices(signature, sentence[0]), sentence[1:]):
        index = index * len(choice) + choice.index(item)
    return index


def sentences_in_order(signature):
    """The list of all sentences of the signature, in their order."""
    found = []
    for word in WORDS:
        many = _count_with_word(signature, word)
        found.extend([_sentence_with_word(signature, word, index) for index in range(many)])
    return found


def is_order(signature, value):
    """Whether the value is a tuple that has each noun once."""
    if not isinstance(value, tuple) or len(value) != signature[0]:
        return False
    if not all(is_noun(signature, noun) for noun in value):
        return False
    return all(noun in value for noun in range(signature[0]))


def count_sentences(signature):
    """The number of all sentences of the signature."""
    check_signature(signature)
    return _count_all(signature)


def nth_sentence(signature, index):
    """The sentence with the index, counted from 0."""
    check_signature(signature)
    if not is_integer(index, 0, _count_all(signature) - 1):
        raise BadValue("index")
    rest = index
    at = 0
    while rest >= _count_with_word(signature, WORDS[at]):
        rest -= _count_with_word(signature, WORDS[at])
        at += 1
    return _sentence_with_word(signature, WORDS[at], rest)


def index_of_sentence(signature, sentence):
    """The index of the sentence, counted from 0."""
    check_signature(signature)
    check_sentence(signature, sentence, "sentence")
    earlier = WORDS[:WORDS.index(sentence[0])]
    return sum(_count_with_word(signature, word) for word in earlier) + _index_with_word(signature, sentence)


def renamed(signature, sentence, order):
    """The sentence with each noun replaced by the item of the order at its index."""
    check_signature(signature)
    check_sentence(signature, sentence, "sentence")
    if not is_order(signature, order):
        raise BadValue("order")
    if sentence[0] == "verb":
        _, q, x, does, v, by, p, y = sentence
        return ("verb", q, order[x], does, v, by, p, order[y])
    if sentence[0] == "self":
        _, q, x, does, v = sentence
        return ("self", q, order[x], does, v)
    word, x, y = sentence
    return (word, order[x], order[y])
