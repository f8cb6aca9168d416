"""Verdicts on a claim by premises, their evidence and its judge, and the consequences of premises."""

from allsomeno.canonical import canonical_of, is_model_of
from allsomeno.conflicts import is_satisfied_somewhere
from allsomeno.errors import BadValue
from allsomeno.listed import count_sentences, nth_sentence
from allsomeno.proofs import is_proof_of
from allsomeno.proving import proof_of
from allsomeno.sentences import check_premises, check_sentence, check_signature, is_integer, negated

MOST_TOLD = 20


def _check_all(signature, premises, claim):
    check_signature(signature)
    check_premises(signature, premises, "premises")
    check_sentence(signature, claim, "claim")


def is_entailed(signature, premises, claim):
    """Whether the claim holds in every model of the premises, both checked before."""
    return not is_satisfied_somewhere(signature, premises + (negated(claim),))


def _verdict(signature, premises, claim):
    if not is_satisfied_somewhere(signature, premises):
        return "no model"
    if is_entailed(signature, premises, claim):
        return "entailed"
    return "open" if is_satisfied_somewhere(signature, premises + (claim,)) else "refuted"


def verdict(signature, premises, claim):
    """The verdict on the claim by the premises, a word."""
    _check_all(signature, premises, claim)
    return _verdict(signature, premises, claim)


def verdict_evidence(signature, premises, claim):
    """The told evidence of the verdict on the claim."""
    _check_all(signature, premises, claim)
    word = _verdict(signature, premises, claim)
    if word == "no model":
        return (word, proof_of(signature, premises))
    so, not_so = premises + (claim,), premises + (negated(claim),)
    if word == "entailed":
        return (word, proof_of(signature, not_so), canonical_of(signature, so))
    if word == "refuted":
        return (word, proof_of(signature, so), canonical_of(signature, not_so))
    return (word, canonical_of(signature, so), canonical_of(signature, not_so))


def accepts_verdict(signature, premises, claim, value):
    """Whether the value is evidence of a verdict on the claim."""
    _check_all(signature, premises, claim)
    if not isinstance(value, tuple) or len(value) not in (2, 3):
        return False
    word, first = value[:2]
    if len(value) == 2:
        return word == "no model" and is_proof_of(signature, premises, first)
    so, not_so = premises + (claim,), premises + (negated(claim),)
    if word == "open":
        return is_model_of(signature, so, first) and is_model_of(signature, not_so, value[2])
    if word not in ("entailed", "refuted"):
        return False
    ruled_out = not_so if word == "entailed" else so
    return is_proof_of(signature, ruled_out, first) and is_model_of(signature, premises, value[2])


def is_consequence(signature, premises, claim):
    """Whether the premises entail the claim."""
    _check_all(signature, premises, claim)
    return is_entailed(signature, premises, claim)


def consequences(signature, premises, index, many):
    """The list of the first so many consequences, in order, from the sentence with the index on."""
    check_signature(signature)
    check_premises(signature, premises, "premises")
    last = count_sentences(signature) - 1
    if not is_integer(index, 0, last):
        raise BadValue("index")
    if not is_integer(many, 0, MOST_TOLD):
        raise BadValue("many")
    found = []
    at = index
    while at <= last and len(found) < many:
        sentence = nth_sentence(signature, at)
        if is_entailed(signature, premises, sentence):
            found.append(sentence)
        at += 1
    return found
