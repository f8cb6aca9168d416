"""Models told apart by a sentence, their theories, and unions of models."""

from allsomeno.errors import TooLarge
from allsomeno.listed import sentences_in_order
from allsomeno.models import MOST_GROUPS, check_model, compares_sizes, holds_in
from allsomeno.sentences import check_signature, is_sentence


def _check_both(signature, first, second):
    check_signature(signature)
    check_model(signature, first, "first")
    check_model(signature, second, "second")


def _is_telling(first, second, sentence):
    """Whether the sentence holds in one of the models, and not in the other one."""
    return holds_in(first, sentence) != holds_in(second, sentence)


def _first_telling(first, second, sentences):
    """The first one of the sentences that tells the models apart, or None."""
    for sentence in sentences:
        if _is_telling(first, second, sentence):
            return sentence
    return None


def told_sentence(signature, first, second):
    """The first sentence that tells the models apart, or None if they agree."""
    _check_both(signature, first, second)
    return _first_telling(first, second, sentences_in_order(signature))


def agree(signature, first, second):
    """Whether no sentence tells the models apart."""
    _check_both(signature, first, second)
    return _first_telling(first, second, sentences_in_order(signature)) is None


def agree_but_for_sizes(signature, first, second):
    """Whether no sentence tells the models apart, but for those that compare sizes."""
    _check_both(signature, first, second)
    others = [sentence for sentence in sentences_in_order(signature) if not compares_sizes(sentence)]
    return _first_telling(first, second, others) is None


def tells_apart(signature, first, second, value):
    """Whether the value is a sentence that tells the models apart."""
    _check_both(signature, first, second)
    return is_sentence(signature, value) and _is_telling(first, second, value)


def theory(signature, model):
    """The list of the sentences that hold in the model, in their order."""
    check_signature(signature)
    check_model(signature, model, "model")
    return [sentence for sentence in sentences_in_order(signature) if holds_in(model, sentence)]


def _moved(row, many):
    """The row with each group as many places further behind."""
    return tuple([group + many for group in row])


def union(signature, first, second):
    """The model with the individuals of both, of whom nobody of the one does anything to anybody of the other."""
    _check_both(signature, first, second)
    many = len(first[0])
    if many + len(second[0]) > MOST_GROUPS:
        raise TooLarge("groups")
    verbs = []
    for rows, others in zip(first[1], second[1]):
        verbs.append(rows + tuple([_moved(row, many) for row in others]))
    selves = [row + _moved(other, many) for row, other in zip(first[2], second[2])]
    return (first[0] + second[0], tuple(verbs), tuple(selves))
