"""Witness groups of sentences, and models expanded, restricted and tidied."""

from allsomeno.errors import BadValue, NotPossible, TooLarge
from allsomeno.models import are_groups, check_model, compares_sizes, first_as_said
from allsomeno.models import is_as_said, says_some, size_of_all
from allsomeno.sentences import check_sentence, check_signature, is_integer, negated

MOST_EXPANDED = 40


def _sought(sentence):
    """The sentence with "some" whose witness groups are those of this one."""
    return sentence if says_some(sentence) else negated(sentence)


def _check_sought(signature, model, sentence):
    check_signature(signature)
    check_model(signature, model, "model")
    check_sentence(signature, sentence, "sentence")
    if compares_sizes(sentence):
        raise NotPossible("numbers")


def first_witness(signature, model, sentence):
    """The first witness group of the sentence, or None if there is none."""
    _check_sought(signature, model, sentence)
    return first_as_said(model, _sought(sentence))


def is_witness(signature, model, sentence, value):
    """Whether the value is a witness group of the sentence."""
    _check_sought(signature, model, sentence)
    if not is_integer(value, 0, len(model[0]) - 1):
        return False
    return is_as_said(model, _sought(sentence), value)


def _homes(groups):
    """The group of each individual, in the order of the groups."""
    homes = []
    for group, (size, _) in enumerate(groups):
        homes.extend([group] * size)
    return homes


def _expanded_row(row, homes, individual):
    """To which individuals one does a verb, given the row of its group."""
    return tuple([at for at, home in enumerate(homes) if home in row and at != individual])


def expanded(signature, model):
    """The model with a group for each individual."""
    check_signature(signature)
    check_model(signature, model, "model")
    if size_of_all(model) > MOST_EXPANDED:
        raise TooLarge("model")
    groups, verbs, selves = model
    homes = _homes(groups)
    new_verbs = []
    for rows in verbs:
        new_verbs.append(tuple([_expanded_row(rows[home], homes, at) for at, home in enumerate(homes)]))
    new_selves = [tuple([at for at, home in enumerate(homes) if home in row]) for row in selves]
    return (tuple([(1, groups[home][1]) for home in homes]), tuple(new_verbs), tuple(new_selves))


def _renumbered(row, kept):
    """The row with only the groups that are kept, by their new numbers."""
    return tuple([at for at, group in enumerate(kept) if group in row])


def restricted(signature, model, groups):
    """The model with these groups alone, numbered anew."""
    check_signature(signature)
    check_model(signature, model, "model")
    if not are_groups(len(model[0]), groups):
        raise BadValue("groups")
    old_groups, verbs, selves = model
    new_groups = tuple([old_groups[group] for group in groups])
    new_verbs = [tuple([_renumbered(rows[group], groups) for group in groups]) for rows in verbs]
    new_selves = [_renumbered(row, groups) for row in selves]
    return (new_groups, tuple(new_verbs), tuple(new_selves))


def _tidied_row(row, group, size):
    """The row without the group itself if it has one individual only."""
    return tuple([other for other in row if other != group or size > 1])


def tidied(signature, model):
    """The model in which no group of one individual stands in its own row."""
    check_signature(signature)
    check_model(signature, model, "model")
    groups, verbs, selves = model
    new_verbs = []
    for rows in verbs:
        new_verbs.append(tuple([_tidied_row(rows[at], at, size) for at, (size, _) in enumerate(groups)]))
    return (groups, tuple(new_verbs), selves)
