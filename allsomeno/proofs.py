"""Proofs that no model satisfies some premises, and their judge, who looks at single steps alone."""

from allsomeno.conflicts import Ground, is_conflict_on
from allsomeno.errors import BadValue
from allsomeno.forcing import Forcing
from allsomeno.kinds import has_form_of_kind
from allsomeno.sentences import check_premises, check_signature, is_noun
from allsomeno.stated import kinds_stated, nouns_of

CLASH = ("clash",)
MOST_LINES = 120
PAIR_WORDS = ("all", "as many")


class Board:
    """The lines of a proof, as far as it has come, and the premises, of however many, that it is for."""

    def __init__(self, signature, premises):
        self.nouns, self.verbs = signature
        self.premises = premises
        self.stated = kinds_stated(premises)
        self.said = {}
        self.kinds = []

    def has(self, fact):
        """Whether the fact is a line."""
        return fact in self.said

    def put(self, fact):
        """Make the fact a line; a line that is there already says nothing more."""
        if fact[0] not in PAIR_WORDS and fact != CLASH and fact not in self.said:
            self.kinds.append(fact)
        self.said[fact] = True

    def table(self, word):
        """A row for each noun that tells, for each noun, whether the word and both are a line."""
        nouns = range(self.nouns)
        return [[(word, x, y) in self.said for y in nouns] for x in nouns]


def _has_form_of_fact(signature, value):
    if not isinstance(value, tuple) or len(value) == 0:
        return False
    if value[0] in PAIR_WORDS:
        return len(value) == 3 and is_noun(signature, value[1]) and is_noun(signature, value[2])
    return value == CLASH or has_form_of_kind(signature, value)


def has_form_of_proof(signature, value):
    """Whether the value is a proof of the signature, which is not checked; it need not be accepted."""
    if not isinstance(value, tuple) or len(value) > MOST_LINES:
        return False
    return all(_has_form_of_fact(signature, line) for line in value)


def _leads(board, word, x, y):
    """Whether two lines with the word lead from x to y over some noun."""
    return any(board.has((word, x, z)) and board.has((word, z, y)) for z in range(board.nouns))


def _all_follows(board, fact):
    _, x, y = fact
    if x == y or fact in board.premises or _leads(board, "all", x, y):
        return True
    return board.has(("all", y, x)) and board.has(("as many", y, x))


def _as_many_follows(board, fact):
    _, x, y = fact
    if fact in board.premises or ("fewer", y, x) in board.premises:
        return True
    return _leads(board, "as many", x, y) or board.has(("all", y, x))


def _is_above(board, y, kind):
    """Whether y is a noun of the kind, or a line says that all with a noun of the kind have y."""
    return any(x == y or board.has(("all", x, y)) for x in nouns_of(kind))


def _needs(board, y, x):
    """Whether there is an x if there is a y, by one line or premise."""
    if x == y or board.has(("as many", x, y)):
        return True
    return any(one[:3] == ("verb", "all", y) and one[6:] == ("some", x) for one in board.premises)


def _one_follows(board, x):
    """Whether it follows from a kind among the lines that there is an x."""
    needing = [y for y in range(board.nouns) if _needs(board, y, x)]
    for kind in board.kinds:
        if any([_is_above(board, y, kind) for y in needing]):
            return True
    return False


def _clash_follows(board):
    inside, enough = board.table("all"), board.table("as many")
    # A kind has its own nouns without a line that says so, but no noun is a subset of itself without one.
    above = [[told or x == y for y, told in enumerate(row)] for x, row in enumerate(inside)]
    forcing = Forcing(above, board.premises)
    return is_conflict_on(Ground(board.premises, inside, enough, board.kinds, forcing), board.verbs)


def follows_from(board, fact):
    """Whether the fact, which is checked, follows from the lines on the board."""
    word = fact[0]
    if word == "all":
        return _all_follows(board, fact)
    if word == "as many":
        return _as_many_follows(board, fact)
    if word == "clash":
        return _clash_follows(board)
    return fact in board.stated or (word == "one" and _one_follows(board, fact[1]))


def first_wrong_line(signature, premises, lines):
    """What `first_wrong` returns, for premises of however many sentences, all checked before."""
    board = Board(signature, premises)
    for index, line in enumerate(lines):
        if not follows_from(board, line):
            return index
        board.put(line)
    return None if lines[-1:] == (CLASH,) else len(lines)


def is_proof_of(signature, premises, value):
    """Whether the value is an accepted proof for the premises, of however many, which are checked."""
    return has_form_of_proof(signature, value) and first_wrong_line(signature, premises, value) is None


def _check_lines(signature, lines):
    if not has_form_of_proof(signature, lines):
        raise BadValue("lines")


def is_fact(signature, value):
    """Whether the value is a fact of the signature."""
    check_signature(signature)
    return _has_form_of_fact(signature, value)


def follows(signature, premises, lines, fact):
    """Whether the fact follows from the lines."""
    check_signature(signature)
    check_premises(signature, premises, "premises")
    _check_lines(signature, lines)
    if not _has_form_of_fact(signature, fact):
        raise BadValue("fact")
    board = Board(signature, premises)
    for line in lines:
        board.put(line)
    return follows_from(board, fact)


def first_wrong(signature, premises, lines):
    """None for an accepted proof; else the index of its first wrong line, or the number of lines if none is."""
    check_signature(signature)
    check_premises(signature, premises, "premises")
    _check_lines(signature, lines)
    return first_wrong_line(signature, premises, lines)
