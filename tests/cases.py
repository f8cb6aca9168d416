"""Premises and claims of many kinds, the same in every run, for the tests of chapters 4 to 8."""

from allsomeno.conflicts import can_hold
from allsomeno.verdicts import is_consequence

from tests.checking import sentences_of
from tests.reference import Stream, mixed_premises
from tests.second import conflicts_of, negation_of, parts_of

TRUTHS = (True, False)
NOBODY = ((), (), ())


def verb(q, x, does, v, by, p, y):
    """The sentence with "verb" and these items."""
    return ("verb", q, x, does, v, by, p, y)


def many_premises(seed, signatures, each):
    """Many premises, some with a conflict and some without, with their signatures."""
    stream = Stream(seed)
    for signature in signatures:
        sentences = sentences_of(signature)
        for _ in range(each):
            yield signature, mixed_premises(sentences, stream)


def mixed_cases(seed, signatures, each, most=8):
    """Many signatures, premises and claims; of the claims some are near to the premises."""
    stream = Stream(seed)
    for signature in signatures:
        sentences = sentences_of(signature)
        short = [one for one in sentences if len(one) == 3]
        for _ in range(each):
            premises = mixed_premises(sentences, stream, most)
            chosen = (sentences, short, premises or short)[stream.below(3)]
            claim = chosen[stream.below(len(chosen))]
            yield signature, premises, negation_of(claim) if stream.below(4) == 0 else claim


def grounds(seed, signatures, each, most=5):
    """Many signatures, premises and claims, of which some are None and some near to the premises.

    Many of the premises are about few nouns, so that a claim has several reasons.
    """
    stream = Stream(seed)
    for signature in signatures:
        sentences = sentences_of(signature)
        few = [one for one in sentences if one[0] in ("all", "some", "no", "as many", "fewer")]
        for _ in range(each):
            chosen = (sentences, few)[stream.below(2)]
            premises = mixed_premises(chosen, stream, most)
            claims = (few, sentences, tuple(negation_of(one) for one in premises) or few)[stream.below(3)]
            claim = None if stream.below(4) == 0 else claims[stream.below(len(claims))]
            yield signature, premises, claim


def enough_by(signature, premises, claim):
    """For each part whether it is enough, by going through all parts one by one (point 78)."""
    told = {}
    for part in parts_of(len(premises)):
        chosen = tuple(premises[index] for index in part)
        told[part] = not can_hold(signature, chosen) if claim is None else is_consequence(signature, chosen, claim)
    return told


def renamed_sentence(sentence, nouns, verbs):
    """The sentence with each noun and each verb replaced by the item at its index."""
    if sentence[0] == "verb":
        _, q, x, does, v, by, p, y = sentence
        return ("verb", q, nouns[x], does, verbs[v], by, p, nouns[y])
    if sentence[0] == "self":
        _, q, x, does, v = sentence
        return ("self", q, nouns[x], does, verbs[v])
    return (sentence[0], nouns[sentence[1]], nouns[sentence[2]])


def compared(seed, signatures, each, most=7):
    """Many signatures and pairs of premises; in half of them the first ones entail most of the second ones."""
    stream = Stream(seed)
    for signature in signatures:
        sentences = sentences_of(signature)
        short = [one for one in sentences if len(one) == 3]
        for at in range(each):
            first = mixed_premises(sentences, stream, most)
            second = []
            for _ in range(stream.below(most + 1)):
                chosen = (sentences, short, first or short)[stream.below(3)]
                one = chosen[stream.below(len(chosen))]
                if at % 2 or stream.below(20) == 0 or conflicts_of(signature, first + (negation_of(one),)):
                    second.append(one)
            yield signature, first, tuple(second)
