"""Names for nouns and verbs, and the words that are reserved."""

from allsomeno.errors import BadValue
from allsomeno.sentences import MOST_NOUNS, MOST_VERBS

RESERVED = ("all", "some", "no", "not", "are", "as", "many", "fewer", "than", "by", "self")
MOST_LETTERS = 8


def is_letter(character):
    """Whether the character is a lowercase letter, a to z."""
    return "a" <= character <= "z"


def _is_name(value):
    if not isinstance(value, str) or not 1 <= len(value) <= MOST_LETTERS:
        return False
    return value not in RESERVED and all(is_letter(character) for character in value)


def are_names(value):
    """Whether the value is names: a pair of the names for the nouns and of those for the verbs."""
    if not isinstance(value, tuple) or len(value) != 2:
        return False
    nouns, verbs = value
    if not isinstance(nouns, tuple) or not isinstance(verbs, tuple):
        return False
    if not 1 <= len(nouns) <= MOST_NOUNS or len(verbs) > MOST_VERBS:
        return False
    both = nouns + verbs
    return all(_is_name(name) for name in both) and len(set(both)) == len(both)


def check_names(names):
    """Raise BadValue if they are not names."""
    if not are_names(names):
        raise BadValue("names")


def signature_of(names):
    """The signature of the names, which have been checked."""
    return (len(names[0]), len(names[1]))
