"""The reasons of a claim: the parts of premises that are just enough for it."""

from allsomeno.conflicts import is_satisfied_somewhere
from allsomeno.errors import BadValue
from allsomeno.sentences import check_premises, check_signature, is_sentence, negated


def check_grounds(signature, premises, claim):
    """Raise BadValue with the name of the first wrong argument; the claim can be None."""
    check_signature(signature)
    check_premises(signature, premises, "premises")
    if claim is not None and not is_sentence(signature, claim):
        raise BadValue("claim")


def place_by_size(part):
    """What tells, compared with that of another part, which one comes first in order by size."""
    return (len(part), part)


def parts_by_size(many):
    """The list of all parts of so many premises, in order by size."""
    parts = [()]
    for index in range(many):
        parts = parts + [part + (index,) for part in parts]
    return sorted(parts, key=place_by_size)


def has_all(part, other):
    """Whether the part has all indexes of the other one."""
    return all(index in part for index in other)


def has_all_of_one(part, others):
    """Whether the part has all indexes of one of the others."""
    return any(has_all(part, other) for other in others)


def sentences_against(premises, claim, part):
    """The premises of the part, with the negation of the claim behind them if there is a claim.

    The part is enough if and only if no model satisfies these.
    """
    chosen = tuple([premises[index] for index in part])
    return chosen if claim is None else chosen + (negated(claim),)


def _is_part_enough(signature, premises, claim, part):
    return not is_satisfied_somewhere(signature, sentences_against(premises, claim, part))


def reasons_of(signature, premises, claim):
    """The list of the reasons, in order by size, of arguments that are checked."""
    found = []
    for part in parts_by_size(len(premises)):
        if not has_all_of_one(part, found) and _is_part_enough(signature, premises, claim, part):
            found.append(part)
    return found


def reasons(signature, premises, claim):
    """The list of the reasons, in order by size."""
    check_grounds(signature, premises, claim)
    return reasons_of(signature, premises, claim)


def is_enough(signature, premises, claim):
    """Whether all premises together are enough."""
    check_grounds(signature, premises, claim)
    return _is_part_enough(signature, premises, claim, tuple(range(len(premises))))


def necessary(signature, premises, claim):
    """The ascending tuple of the indexes of the necessary premises."""
    check_grounds(signature, premises, claim)
    found = reasons_of(signature, premises, claim)
    # Where nothing is enough, each premise is in each reason, as there is none.
    if found == []:
        return ()
    return tuple([index for index in range(len(premises)) if all([index in reason for reason in found])])


def unused(signature, premises, claim):
    """The ascending tuple of the indexes of the unused premises."""
    check_grounds(signature, premises, claim)
    found = reasons_of(signature, premises, claim)
    return tuple([index for index in range(len(premises)) if not any([index in reason for reason in found])])


def _leaves_no_reason(part, found):
    """Whether the part has a premise of each reason."""
    return all(any([index in reason for index in part]) for reason in found)


def removal(signature, premises, claim):
    """The removal: the first part, in order by size, without which the others are not enough; or None."""
    check_grounds(signature, premises, claim)
    found = reasons_of(signature, premises, claim)
    for part in parts_by_size(len(premises)):
        if _leaves_no_reason(part, found):
            return part
    return None
