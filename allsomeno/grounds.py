"""Evidence of the reasons of a claim, and its judge, who goes through all parts of the premises."""

from allsomeno.canonical import canonical_of, is_model_of
from allsomeno.models import holds_in, is_ascending
from allsomeno.proofs import is_proof_of
from allsomeno.proving import proof_of
from allsomeno.reasons import check_grounds, has_all, has_all_of_one, parts_by_size, place_by_size
from allsomeno.reasons import reasons_of, sentences_against
from allsomeno.sentences import is_integer

MOST_REASONS = 70
MOST_MODELS = 80


def _is_greatest(many, part, found):
    """Whether the part, of so many premises, is not enough, while each part with more than it has is."""
    if has_all_of_one(part, found):
        return False
    # What one index more makes enough, further ones leave enough.
    more = [tuple(sorted(part + (index,))) for index in range(many) if index not in part]
    return all(has_all_of_one(one, found) for one in more)


def reasons_evidence(signature, premises, claim):
    """The told evidence of the reasons."""
    check_grounds(signature, premises, claim)
    found = reasons_of(signature, premises, claim)
    many = len(premises)
    greatest = [part for part in parts_by_size(many) if _is_greatest(many, part, found)]
    proofs = [proof_of(signature, sentences_against(premises, claim, reason)) for reason in found]
    models = [canonical_of(signature, sentences_against(premises, claim, part)) for part in greatest]
    return (tuple(found), tuple(proofs), tuple(models))


def _is_part(many, value):
    if not isinstance(value, tuple) or not all(is_integer(index, 0, many - 1) for index in value):
        return False
    return is_ascending(value)


def _are_parts_apart(many, value):
    """Whether the value is parts in order by size, all different, none with all indexes of another one."""
    if not isinstance(value, tuple) or len(value) > MOST_REASONS:
        return False
    if not all(_is_part(many, part) for part in value):
        return False
    # In order by size, only a later part can have all indexes of another one.
    for at in range(1, len(value)):
        before, part = value[at - 1], value[at]
        if place_by_size(before) >= place_by_size(part) or has_all_of_one(part, value[:at]):
            return False
    return True


def _are_proofs(signature, premises, claim, parts, value):
    """Whether the value is a proof for each of the parts."""
    if not isinstance(value, tuple) or len(value) != len(parts):
        return False
    for part, proof in zip(parts, value):
        if not is_proof_of(signature, sentences_against(premises, claim, part), proof):
            return False
    return True


def _are_models_against(signature, claim, value):
    """Whether the value is models in none of which the claim holds, if there is one."""
    if not isinstance(value, tuple) or len(value) > MOST_MODELS:
        return False
    against = sentences_against((), claim, ())
    return all(is_model_of(signature, against, model) for model in value)


def _part_that_holds(premises, model):
    """The part of the premises that hold in the model."""
    return tuple([index for index, premise in enumerate(premises) if holds_in(model, premise)])


def _are_all_others_met(premises, parts, models):
    """Whether each part that has not all indexes of one of the parts holds in one of the models."""
    held = [_part_that_holds(premises, model) for model in models]
    for part in parts_by_size(len(premises)):
        if not has_all_of_one(part, parts) and not any([has_all(one, part) for one in held]):
            return False
    return True


def accepts_reasons(signature, premises, claim, value):
    """Whether the value is evidence of the reasons."""
    check_grounds(signature, premises, claim)
    if not isinstance(value, tuple) or len(value) != 3:
        return False
    parts, proofs, models = value
    if not _are_parts_apart(len(premises), parts):
        return False
    if not _are_proofs(signature, premises, claim, parts, proofs):
        return False
    return _are_models_against(signature, claim, models) and _are_all_others_met(premises, parts, models)
