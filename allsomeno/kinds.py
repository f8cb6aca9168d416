"""Kinds of individuals: which ones premises require, and what they are forced to do to one another."""

from allsomeno.errors import BadValue
from allsomeno.forcing import Forcing
from allsomeno.sentences import check_premises, check_signature, is_noun, is_verb
from allsomeno.stated import kinds_stated
from allsomeno.tables import nouns_needed, nouns_over, tables_of


def has_form_of_kind(signature, value):
    """Whether the value is a kind of the signature, which is not checked."""
    if not isinstance(value, tuple) or len(value) < 2 or not is_noun(signature, value[1]):
        return False
    word, rest = value[0], value[2:]
    if word == "one":
        return len(rest) == 0
    if word == "both":
        return len(rest) == 1 and is_noun(signature, rest[0]) and value[1] < rest[0]
    if word == "mark":
        return _is_mark_rest(signature, rest)
    return word == "self" and len(rest) == 2 and isinstance(rest[0], bool) and is_verb(signature, rest[1])


def _is_mark_rest(signature, rest):
    """Whether these are the items of a kind with "mark" behind its first noun."""
    if len(rest) != 4:
        return False
    does, v, by, y = rest
    return isinstance(does, bool) and is_verb(signature, v) and isinstance(by, bool) and is_noun(signature, y)


def _check_kind(signature, kind, name):
    if not has_form_of_kind(signature, kind):
        raise BadValue(name)


def _check_verb(signature, verb):
    if not is_verb(signature, verb):
        raise BadValue("verb")


def kinds_needed(inside, enough, premises):
    """The tuple of the required kinds, by the tables of the premises."""
    singles = [("one", x) for x in nouns_needed(inside, enough, premises)]
    others = [kind for kind in kinds_stated(premises) if kind[0] != "one"]
    return tuple(singles + others)


def _word(yes, no):
    if yes:
        return "both" if no else "yes"
    return "no" if no else "free"


def is_kind(signature, value):
    """Whether the value is a kind of the signature."""
    check_signature(signature)
    return has_form_of_kind(signature, value)


def nouns_above(signature, premises, kind):
    """The ascending tuple of the nouns above the kind."""
    check_signature(signature)
    check_premises(signature, premises, "premises")
    _check_kind(signature, kind, "kind")
    inside, _ = tables_of(signature[0], premises)
    return nouns_over(inside, kind)


def kinds_required(signature, premises):
    """The tuple of the required kinds."""
    check_signature(signature)
    check_premises(signature, premises, "premises")
    inside, enough = tables_of(signature[0], premises)
    return kinds_needed(inside, enough, premises)


def forced_between(signature, premises, verb, first, second):
    """The word of what is forced from the first kind to the second one."""
    check_signature(signature)
    check_premises(signature, premises, "premises")
    _check_verb(signature, verb)
    _check_kind(signature, first, "first")
    _check_kind(signature, second, "second")
    inside, _ = tables_of(signature[0], premises)
    forcing = Forcing(inside, premises)
    yes = forcing.is_between(True, verb, first, second)
    return _word(yes, forcing.is_between(False, verb, first, second))


def forced_to_itself(signature, premises, verb, kind):
    """The word of what is forced from the kind to itself, each to itself."""
    check_signature(signature)
    check_premises(signature, premises, "premises")
    _check_verb(signature, verb)
    _check_kind(signature, kind, "kind")
    inside, _ = tables_of(signature[0], premises)
    forcing = Forcing(inside, premises)
    return _word(forcing.is_alone(True, verb, kind), forcing.is_alone(False, verb, kind))
