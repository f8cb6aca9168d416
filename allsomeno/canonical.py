"""The canonical model of premises without a conflict, and the judge of models."""

from allsomeno.conflicts import ground_of, is_conflict_on
from allsomeno.errors import NotPossible
from allsomeno.models import first_false_in, is_model
from allsomeno.sentences import check_premises, check_signature

# With two copies alone, each one would do it to the only other one there is.
COPIES = 3


def _is_another_noun(inside, x):
    """Whether x is the same as some lesser noun: in all models the same individuals have both."""
    return any(inside[y][x] and inside[x][y] for y in range(x))


def _count_known(ground, sizes, x):
    """How many individuals have x, in the groups whose sizes are known by then."""
    many = 0
    for kind in ground.kinds:
        if x in ground.forcing.nouns_above(kind):
            many += COPIES - 1
            # A copy 0 of a form other than "one" has one individual.
            many += sizes.get(kind[1], 0) if kind[0] == "one" else 1
    return many


def _first_sizes(ground):
    """The sizes of the copies 0 of the kinds ("one", x), by x."""
    needed = [kind[1] for kind in ground.kinds if kind[0] == "one"]
    levels = {x: len([y for y in needed if ground.enough[x][y]]) for x in needed}
    sizes = {x: 1 for x in needed if _is_another_noun(ground.inside, x)}
    size = 0
    for level in sorted({levels[x] for x in needed}):
        here = [x for x in needed if levels[x] == level and x not in sizes]
        counts = [_count_known(ground, sizes, x) for x in here]
        size = max([size] + counts) + 1
        for x, count in zip(here, counts):
            sizes[x] = size - count
    return sizes


def _groups(ground):
    sizes = _first_sizes(ground)
    groups = []
    for kind in ground.kinds:
        nouns = ground.forcing.nouns_above(kind)
        first = sizes[kind[1]] if kind[0] == "one" else 1
        groups.extend([(first, nouns)] + [(1, nouns)] * (COPIES - 1))
    return tuple(groups)


def _row(ground, verb, kind, copy):
    """The ascending tuple of the groups to whose individuals those of the copy of the kind do the verb."""
    row = []
    following = (copy + 1) % COPIES
    for at, other in enumerate(ground.kinds):
        if ground.forcing.is_between(True, verb, kind, other):
            row.extend([COPIES * at + one for one in range(COPIES)])
        elif not ground.forcing.is_between(False, verb, kind, other):
            row.append(COPIES * at + following)
    return tuple(row)


def _rows(ground, verb):
    return tuple([_row(ground, verb, kind, copy) for kind in ground.kinds for copy in range(COPIES)])


def _selves(ground, verb):
    row = []
    for at, kind in enumerate(ground.kinds):
        if ground.forcing.is_alone(True, verb, kind):
            row.extend([COPIES * at + one for one in range(COPIES)])
    return tuple(row)


def model_on(ground, verbs):
    """The canonical model on a ground without a conflict, with so many verbs."""
    rows = [_rows(ground, verb) for verb in range(verbs)]
    selves = [_selves(ground, verb) for verb in range(verbs)]
    return (_groups(ground), tuple(rows), tuple(selves))


def canonical_of(signature, premises):
    """The canonical model of premises, of however many, that are checked and have no conflict."""
    return model_on(ground_of(signature, premises), signature[1])


def is_model_of(signature, premises, value):
    """Whether the value is a model that satisfies the premises, of however many, both checked before."""
    return is_model(signature, value) and first_false_in(value, premises) is None


def canonical_model(signature, premises):
    """The canonical model of the premises."""
    check_signature(signature)
    check_premises(signature, premises, "premises")
    ground = ground_of(signature, premises)
    if is_conflict_on(ground, signature[1]):
        raise NotPossible("conflict")
    return model_on(ground, signature[1])


def accepts_model(signature, premises, value):
    """Whether the value is a model that satisfies the premises."""
    check_signature(signature)
    check_premises(signature, premises, "premises")
    return is_model_of(signature, premises, value)
