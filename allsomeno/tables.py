"""Which nouns are subsets of others or have at least as many, and which are required."""

from allsomeno.sentences import check_premises, check_signature
from allsomeno.stated import kinds_stated, nouns_of


def _table(many, pairs):
    """A row for each noun that tells, for each noun, whether the pair of both is among the pairs."""
    return [[(x, y) in pairs for y in range(many)] for x in range(many)]


def _leads(table, x, y):
    """Whether the table leads from x to y over some noun."""
    return any(table[x][z] and table[z][y] for z in range(len(table)))


def _more_subsets(inside, enough):
    """The table of subsets after one more round of its rules."""
    nouns = range(len(inside))
    # Models are finite: what has as many as what it is a part of is all of it.
    return [[_leads(inside, x, y) or (inside[y][x] and enough[y][x]) for y in nouns] for x in nouns]


def _more_at_least(inside, enough):
    """The table of having at least as many after one more round of its rules."""
    nouns = range(len(inside))
    return [[enough[x][y] or inside[y][x] or _leads(enough, x, y) for y in nouns] for x in nouns]


def tables_of(many, premises):
    """The two tables of so many nouns: at [x][y], whether x is a subset of y, and whether x has at least as many."""
    parts = [(x, x) for x in range(many)]
    counts = []
    for premise in premises:
        if premise[0] == "all":
            parts.append(premise[1:])
        if premise[0] == "as many":
            counts.append(premise[1:])
        if premise[0] == "fewer":
            counts.append((premise[2], premise[1]))
    inside, enough = _table(many, parts), _table(many, counts)
    before = None
    while before != (inside, enough):
        before = (inside, enough)
        inside = _more_subsets(inside, enough)
        enough = _more_at_least(inside, enough)
    return inside, enough


def nouns_over(inside, kind):
    """The ascending tuple of the nouns above the kind, by the table of subsets."""
    return tuple([y for y in range(len(inside)) if any([inside[x][y] for x in nouns_of(kind)])])


def _needs(inside, enough, premises, x, y):
    """Whether y is required because x is."""
    if inside[x][y] or enough[y][x]:
        return True
    for premise in premises:
        if premise[:3] == ("verb", "all", x) and premise[6:] == ("some", y):
            return True
    return False


def nouns_needed(inside, enough, premises):
    """The ascending tuple of the required nouns, by the tables of the premises."""
    needed = []
    for kind in kinds_stated(premises):
        needed.extend([x for x in nouns_over(inside, kind) if x not in needed])
    # Of the nouns that are needed, those behind `at` have not been asked yet what they need.
    at = 0
    while at < len(needed):
        more = [y for y in range(len(inside)) if y not in needed and _needs(inside, enough, premises, needed[at], y)]
        needed.extend(more)
        at += 1
    return tuple(sorted(needed))


def _different_pairs(table):
    nouns = range(len(table))
    return tuple([(x, y) for x in nouns for y in nouns if x != y and table[x][y]])


def subsets(signature, premises):
    """The ascending tuple of the pairs (x, y) of different nouns of which x is a subset of y."""
    check_signature(signature)
    check_premises(signature, premises, "premises")
    inside, _ = tables_of(signature[0], premises)
    return _different_pairs(inside)


def at_least(signature, premises):
    """The ascending tuple of the pairs (x, y) of different nouns of which x has at least as many as y."""
    check_signature(signature)
    check_premises(signature, premises, "premises")
    _, enough = tables_of(signature[0], premises)
    return _different_pairs(enough)


def nouns_required(signature, premises):
    """The ascending tuple of the required nouns."""
    check_signature(signature)
    check_premises(signature, premises, "premises")
    inside, enough = tables_of(signature[0], premises)
    return nouns_needed(inside, enough, premises)
