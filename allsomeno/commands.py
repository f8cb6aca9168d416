"""The commands of debates, and what becomes of the assertions by them."""

from allsomeno.sentences import is_integer, is_sentence

MOST_SPEAKERS = 6
MOST_ASSERTIONS = 8
MOST_COMMANDS = 20


def is_speaker(value):
    """Whether the value is a speaker."""
    return is_integer(value, 0, MOST_SPEAKERS - 1)


def is_command(signature, value):
    """Whether the value is a command for the signature, which is not checked."""
    if not isinstance(value, tuple) or len(value) not in (2, 3):
        return False
    if len(value) == 2:
        return value[0] == "withdraw" and is_integer(value[1], 0, MOST_ASSERTIONS - 1)
    return value[0] == "assert" and is_speaker(value[1]) and is_sentence(signature, value[2])


def hindrance(assertions, command):
    """The word for what keeps the command from being possible by the number of the assertions, or None."""
    if command[0] == "assert":
        return "many" if len(assertions) == MOST_ASSERTIONS else None
    return None if command[1] < len(assertions) else "missing"


def assertions_behind(assertions, command):
    """The tuple of the assertions behind the command, which nothing hinders."""
    if command[0] == "assert":
        return assertions + (command[1:],)
    at = command[1]
    return assertions[:at] + assertions[at + 1:]


def sentences_by(assertions, speaker):
    """The tuple of the sentences of the speaker among the assertions."""
    return tuple([sentence for one, sentence in assertions if one == speaker])
