"""Debates replayed from their journals, and the judge of records."""

from allsomeno.canonical import is_model_of
from allsomeno.commands import MOST_COMMANDS, assertions_behind, hindrance, is_command, sentences_by
from allsomeno.debate import Debate
from allsomeno.errors import BadValue
from allsomeno.sentences import check_signature


def _is_journal(signature, value):
    if not isinstance(value, tuple) or len(value) > MOST_COMMANDS:
        return False
    return all(is_command(signature, command) for command in value)


def replayed(signature, journal):
    """The debate that comes by the commands of the journal."""
    check_signature(signature)
    if not _is_journal(signature, journal):
        raise BadValue("journal")
    debate = Debate(signature)
    for command in journal:
        debate.act(command)
    return debate


def _is_possible_record(signature, assertions, value):
    """Whether the value is a pair with a command that the number of the assertions does not hinder."""
    if not isinstance(value, tuple) or len(value) != 2 or not is_command(signature, value[0]):
        return False
    return hindrance(assertions, value[0]) is None


def _shows(signature, command, behind, model):
    """Whether the model shows that the speaker is not contradicted; for a "withdraw" nothing is to be shown."""
    if command[0] == "withdraw":
        return model is None
    return is_model_of(signature, sentences_by(behind, command[1]), model)


def are_right(signature, records):
    """Whether the records are right, as the judge finds by counting in their models."""
    check_signature(signature)
    if not isinstance(records, tuple) or len(records) > MOST_COMMANDS:
        return False
    assertions = ()
    for value in records:
        if not _is_possible_record(signature, assertions, value):
            return False
        command, model = value
        assertions = assertions_behind(assertions, command)
        if not _shows(signature, command, assertions, model):
            return False
    return True
