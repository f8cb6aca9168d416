"""Debates: speakers assert sentences and withdraw them."""

from allsomeno.canonical import canonical_of
from allsomeno.commands import MOST_COMMANDS, MOST_SPEAKERS, assertions_behind, hindrance
from allsomeno.commands import is_command, is_speaker, sentences_by
from allsomeno.conflicts import is_satisfied_somewhere
from allsomeno.errors import BadValue, NotPossible, TooLarge
from allsomeno.sentences import check_signature


class Debate:
    """A debate of a signature; no speaker contradicts himself or herself, but speakers may one another."""

    def __init__(self, signature):
        check_signature(signature)
        self.signature = signature
        self.commands = []
        # The assertions ahead of the first command, and behind each one.
        self.stages = [()]

    def act(self, command):
        """Carry out the command; returns the number of commands in the journal."""
        if not is_command(self.signature, command):
            raise BadValue("command")
        now = self.stages[-1]
        why = hindrance(now, command)
        if why is not None:
            raise NotPossible(why)
        behind = assertions_behind(now, command)
        if command[0] == "assert" and not self._is_satisfied(sentences_by(behind, command[1])):
            raise NotPossible("self")
        if len(self.commands) >= MOST_COMMANDS:
            raise TooLarge("commands")
        self.commands.append(command)
        self.stages.append(behind)
        return len(self.commands)

    def undo(self):
        """Undo the last command; returns it, or None if the journal is empty."""
        if self.commands == []:
            return None
        self.stages.pop()
        return self.commands.pop()

    def assertions(self):
        """The tuple of the assertions, pairs (speaker, sentence)."""
        return self.stages[-1]

    def sentences(self, speaker):
        """The tuple of the present sentences of the speaker."""
        if not is_speaker(speaker):
            raise BadValue("speaker")
        return sentences_by(self.stages[-1], speaker)

    def journal(self):
        """The tuple of the commands in the journal."""
        return tuple(self.commands)

    def can_hold(self):
        """Whether some model satisfies all present sentences."""
        return self._is_satisfied(tuple([sentence for _, sentence in self.stages[-1]]))

    def disputes(self):
        """The ascending tuple of the pairs of speakers who dispute."""
        speakers = range(MOST_SPEAKERS)
        return tuple([(k, j) for k in speakers for j in speakers if k < j and self._is_dispute(k, j)])

    def records(self):
        """The tuple of the records: each command, with a model of what the speaker asserts behind it, or None."""
        found = []
        for command, behind in zip(self.commands, self.stages[1:]):
            model = None
            if command[0] == "assert":
                model = canonical_of(self.signature, sentences_by(behind, command[1]))
            found.append((command, model))
        return tuple(found)

    def twin(self):
        """A debate with the same signature and journal."""
        other = Debate(self.signature)
        other.commands = list(self.commands)
        other.stages = list(self.stages)
        return other

    def _is_satisfied(self, sentences):
        return is_satisfied_somewhere(self.signature, sentences)

    def _is_dispute(self, one, other):
        now = self.stages[-1]
        return not self._is_satisfied(sentences_by(now, one) + sentences_by(now, other))
