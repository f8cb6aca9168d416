"""Premises compared: which ones entail other ones, with evidence and its judges, and pruning."""

from allsomeno.canonical import canonical_of, is_model_of
from allsomeno.errors import BadValue
from allsomeno.proofs import is_proof_of
from allsomeno.proving import proof_of
from allsomeno.sentences import check_premises, check_signature, is_integer, negated
from allsomeno.verdicts import is_entailed

# A negation is put behind the premises of a proof, and a proof is about eight sentences at most.
MOST_COMPARED = 7


def _check_compared(signature, premises, name):
    check_premises(signature, premises, name)
    if len(premises) > MOST_COMPARED:
        raise BadValue(name)


def _check_both(signature, first, second):
    check_signature(signature)
    _check_compared(signature, first, "first")
    _check_compared(signature, second, "second")


def _against(premises, sentence):
    """The premises with the negation of the sentence put behind them."""
    return premises + (negated(sentence),)


def _first_not_entailed(signature, first, second):
    """The index of the first one of the second premises that the first ones do not entail, or None."""
    for index, sentence in enumerate(second):
        if not is_entailed(signature, first, sentence):
            return index
    return None


def entails(signature, first, second):
    """Whether every model of the first premises is a model of the second ones."""
    _check_both(signature, first, second)
    return _first_not_entailed(signature, first, second) is None


def are_equivalent(signature, first, second):
    """Whether each of the premises entail the other ones."""
    _check_both(signature, first, second)
    if _first_not_entailed(signature, first, second) is not None:
        return False
    return _first_not_entailed(signature, second, first) is None


def difference(signature, first, second):
    """The told difference of the first premises from the second ones, or None if they entail these."""
    _check_both(signature, first, second)
    index = _first_not_entailed(signature, first, second)
    if index is None:
        return None
    return (index, canonical_of(signature, _against(first, second[index])))


def accepts_difference(signature, first, second, value):
    """Whether the value is a difference of the first premises from the second ones."""
    _check_both(signature, first, second)
    if not isinstance(value, tuple) or len(value) != 2:
        return False
    index, model = value
    if not is_integer(index, 0, len(second) - 1):
        return False
    return is_model_of(signature, _against(first, second[index]), model)


def proofs(signature, first, second):
    """Proofs that the first premises entail the second ones, or None if they do not."""
    _check_both(signature, first, second)
    if _first_not_entailed(signature, first, second) is not None:
        return None
    return tuple([proof_of(signature, _against(first, sentence)) for sentence in second])


def accepts_proofs(signature, first, second, value):
    """Whether the value is proofs that the first premises entail the second ones."""
    _check_both(signature, first, second)
    if not isinstance(value, tuple) or len(value) != len(second):
        return False
    for sentence, proof in zip(second, value):
        if not is_proof_of(signature, _against(first, sentence), proof):
            return False
    return True


def _without(premises, index):
    return premises[:index] + premises[index + 1:]


def _needless(signature, premises):
    found = []
    for index, sentence in enumerate(premises):
        if is_entailed(signature, _without(premises, index), sentence):
            found.append(index)
    return tuple(found)


def needless(signature, premises):
    """The ascending tuple of the indexes of the needless sentences."""
    check_signature(signature)
    _check_compared(signature, premises, "premises")
    return _needless(signature, premises)


def pruned(signature, premises):
    """The premises without needless sentences: the last one is left out, again and again, until none is."""
    check_signature(signature)
    _check_compared(signature, premises, "premises")
    kept = premises
    found = _needless(signature, kept)
    while found != ():
        kept = _without(kept, found[-1])
        found = _needless(signature, kept)
    return kept
