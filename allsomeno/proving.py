"""The told proof of premises that no model satisfies."""

from allsomeno.conflicts import is_satisfied_somewhere
from allsomeno.proofs import CLASH, PAIR_WORDS, Board, first_wrong_line, follows_from
from allsomeno.sentences import check_premises, check_signature
from allsomeno.stated import kinds_stated


def _facts_in_order(nouns, premises):
    """The facts that are looked at, again and again, in this order."""
    pairs = [(word, x, y) for word in PAIR_WORDS for x in range(nouns) for y in range(nouns)]
    return pairs + kinds_stated(premises) + [("one", x) for x in range(nouns)]


def _lines_that_come(signature, premises):
    """All that follows, as a tuple, in the sequence in which it becomes a line."""
    board = Board(signature, premises)
    facts = _facts_in_order(signature[0], premises)
    lines = []
    before = -1
    while before < len(lines):
        before = len(lines)
        for fact in facts:
            if not board.has(fact) and follows_from(board, fact):
                board.put(fact)
                lines.append(fact)
    return tuple(lines)


def proof_of(signature, premises):
    """The told proof of premises, of however many, that are checked and have a conflict."""
    lines = _lines_that_come(signature, premises)
    kept = lines + (CLASH,)
    for at in reversed(range(len(lines))):
        fewer = kept[:at] + kept[at + 1:]
        if first_wrong_line(signature, premises, fewer) is None:
            kept = fewer
    return kept


def told_proof(signature, premises):
    """The told proof, or None if the premises have no conflict."""
    check_signature(signature)
    check_premises(signature, premises, "premises")
    if is_satisfied_somewhere(signature, premises):
        return None
    return proof_of(signature, premises)
