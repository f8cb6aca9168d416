"""Models, written as groups of individuals that are alike, and what holds in them."""

from allsomeno.errors import BadValue
from allsomeno.sentences import check_premises, check_sentence, check_signature
from allsomeno.sentences import is_integer, is_noun, negated

MOST_GROUPS = 40
MOST_OF_A_GROUP = 1000


def is_ascending(value):
    """Whether each of the integers in the tuple is less than the next one."""
    return all(value[at] < value[at + 1] for at in range(len(value) - 1))


def are_groups(many, value):
    """Whether the value is an ascending tuple of groups, of so many as there are."""
    if not isinstance(value, tuple) or not all(is_integer(group, 0, many - 1) for group in value):
        return False
    return is_ascending(value)


def _is_group(signature, value):
    if not isinstance(value, tuple) or len(value) != 2:
        return False
    size, nouns = value
    if not is_integer(size, 1, MOST_OF_A_GROUP) or not isinstance(nouns, tuple):
        return False
    return all(is_noun(signature, noun) for noun in nouns) and is_ascending(nouns)


def _are_rows(many, value):
    if not isinstance(value, tuple) or len(value) != many:
        return False
    return all(are_groups(many, row) for row in value)


def _has_one_for_each_verb(signature, value):
    return isinstance(value, tuple) and len(value) == signature[1]


def is_model(signature, value):
    """Whether the value is a model of the signature, which is not checked."""
    if not isinstance(value, tuple) or len(value) != 3:
        return False
    groups, verbs, selves = value
    if not isinstance(groups, tuple) or len(groups) > MOST_GROUPS:
        return False
    if not all(_is_group(signature, group) for group in groups):
        return False
    if not _has_one_for_each_verb(signature, verbs) or not _has_one_for_each_verb(signature, selves):
        return False
    many = len(groups)
    return all(_are_rows(many, rows) for rows in verbs) and all(are_groups(many, row) for row in selves)


def check_model(signature, model, name):
    """Raise BadValue with the name if it is not a model of the signature."""
    if not is_model(signature, model):
        raise BadValue(name)


def says_some(sentence):
    """Whether it is a sentence with "some" in its first place."""
    return sentence[0] in ("some", "some not") or sentence[1] == "some"


def compares_sizes(sentence):
    """Whether it is a sentence that compares sizes."""
    return sentence[0] in ("as many", "fewer")


def _deeds(model, group, v, by, y):
    """All answers to whether an individual of the group does v to one with y, or, if `by`, one with y to it."""
    groups, verbs, selves = model
    answers = []
    for other in range(len(groups)):
        size, nouns = groups[other]
        if y in nouns:
            # A row tells of the others only, and a group of one has none in itself.
            if other != group or size > 1:
                answers.append(group in verbs[v][other] if by else other in verbs[v][group])
            if other == group:
                answers.append(group in selves[v])
    return answers


def is_as_said(model, sentence, group):
    """Whether the individuals of the group are such as the sentence, one with "some", says of some x."""
    groups, _, selves = model
    nouns = groups[group][1]
    if sentence[0] == "verb":
        _, _, x, does, v, by, p, y = sentence
        if x not in nouns:
            return False
        answers = _deeds(model, group, v, by, y)
        if p == "some":
            return does in answers
        return all(answer == does for answer in answers)
    if sentence[0] == "self":
        _, _, x, does, v = sentence
        return x in nouns and (group in selves[v]) == does
    word, x, y = sentence
    return x in nouns and (y in nouns) == (word == "some")


def first_as_said(model, sentence):
    """The first group that is such as the sentence, one with "some", says of some x, or None."""
    for group in range(len(model[0])):
        if is_as_said(model, sentence, group):
            return group
    return None


def size_of_noun(model, noun):
    """How many individuals have the noun."""
    return sum(size for size, nouns in model[0] if noun in nouns)


def size_of_all(model):
    """How many individuals there are."""
    return sum(size for size, _ in model[0])


def holds_in(model, sentence):
    """Whether the sentence holds in the model, both checked before."""
    if compares_sizes(sentence):
        word, x, y = sentence
        return (size_of_noun(model, x) >= size_of_noun(model, y)) == (word == "as many")
    if says_some(sentence):
        return first_as_said(model, sentence) is not None
    return first_as_said(model, negated(sentence)) is None


def first_false_in(model, premises):
    """The index of the first premise that does not hold in the model, or None."""
    for index, premise in enumerate(premises):
        if not holds_in(model, premise):
            return index
    return None


def holds(signature, model, sentence):
    """Whether the sentence holds in the model."""
    check_signature(signature)
    check_model(signature, model, "model")
    check_sentence(signature, sentence, "sentence")
    return holds_in(model, sentence)


def first_false(signature, model, premises):
    """The index of the first premise that does not hold in the model, or None if all hold."""
    check_signature(signature)
    check_model(signature, model, "model")
    check_premises(signature, premises, "premises")
    return first_false_in(model, premises)


def count_with(signature, model, noun):
    """The size of the noun: the number of the individuals that have it."""
    check_signature(signature)
    check_model(signature, model, "model")
    if not is_noun(signature, noun):
        raise BadValue("noun")
    return size_of_noun(model, noun)


def total_size(signature, model):
    """The number of all individuals."""
    check_signature(signature)
    check_model(signature, model, "model")
    return size_of_all(model)
