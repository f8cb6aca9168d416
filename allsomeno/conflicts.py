"""The conflicts of premises: without one, some model satisfies them, and with one, none does."""

from allsomeno.forcing import Forcing
from allsomeno.kinds import kinds_needed
from allsomeno.sentences import check_premises, check_signature
from allsomeno.tables import tables_of


class Ground:
    """Where conflicts are looked for: premises, their two tables, the kinds there are, and what is forced.

    The tables and kinds are those that the premises force, or, for a proof, what its lines say.
    """

    def __init__(self, premises, inside, enough, kinds, forcing):
        self.premises = premises
        self.inside = inside
        self.enough = enough
        self.kinds = kinds
        self.forcing = forcing


def ground_of(signature, premises):
    """The ground of the premises, of however many."""
    inside, enough = tables_of(signature[0], premises)
    kinds = kinds_needed(inside, enough, premises)
    return Ground(premises, inside, enough, kinds, Forcing(inside, premises))


def _is_contrary_forced(ground, premise, kind):
    """Whether the contrary is forced of what a premise with "some" in its last place says of the kind."""
    _, _, _, does, v, by, _, y = premise
    first, second = (("one", y), kind) if by else (kind, ("one", y))
    return ground.forcing.is_between(not does, v, first, second)


def _is_verb_in_conflict(ground, premise):
    """Whether a premise with "verb" is in conflict, one with "some" in its last place."""
    if premise[1] == "some":
        return _is_contrary_forced(ground, premise, ("one", premise[2]))
    kinds = [kind for kind in ground.kinds if premise[2] in ground.forcing.nouns_above(kind)]
    return any(_is_contrary_forced(ground, premise, kind) for kind in kinds)


def _is_anyone_both(ground, x, y):
    """Whether both nouns are above one and the same kind."""
    rows = [ground.forcing.nouns_above(kind) for kind in ground.kinds]
    return any(x in row and y in row for row in rows)


def _is_in_conflict(ground, premise):
    word, x, y = premise[:3]
    if word == "no":
        return _is_anyone_both(ground, x, y)
    if word == "some not":
        return ground.inside[x][y]
    if word == "fewer":
        return ground.enough[x][y]
    return word == "verb" and premise[6] == "some" and _is_verb_in_conflict(ground, premise)


def _pairs_in_conflict(ground, verb):
    forcing, kinds = ground.forcing, ground.kinds
    forced = [(k, j) for k in kinds for j in kinds if forcing.is_between(True, verb, k, j)]
    return [("pair", verb, k, j) for k, j in forced if forcing.is_between(False, verb, k, j)]


def _selves_in_conflict(ground, verb):
    forced = [kind for kind in ground.kinds if ground.forcing.is_alone(True, verb, kind)]
    return [("self", verb, kind) for kind in forced if ground.forcing.is_alone(False, verb, kind)]


def conflicts_on(ground, verbs):
    """The list of the conflicts on the ground, in order, with so many verbs."""
    found = [("premise", index) for index, one in enumerate(ground.premises) if _is_in_conflict(ground, one)]
    for verb in range(verbs):
        found.extend(_pairs_in_conflict(ground, verb))
        found.extend(_selves_in_conflict(ground, verb))
    return found


def is_conflict_on(ground, verbs):
    """Whether there is a conflict on the ground, with so many verbs."""
    if any(_is_in_conflict(ground, premise) for premise in ground.premises):
        return True
    for verb in range(verbs):
        if _pairs_in_conflict(ground, verb) or _selves_in_conflict(ground, verb):
            return True
    return False


def is_satisfied_somewhere(signature, premises):
    """Whether some model satisfies the premises, of however many, both checked before."""
    return not is_conflict_on(ground_of(signature, premises), signature[1])


def conflicts(signature, premises):
    """The tuple of the conflicts of the premises, in order."""
    check_signature(signature)
    check_premises(signature, premises, "premises")
    return tuple(conflicts_on(ground_of(signature, premises), signature[1]))


def can_hold(signature, premises):
    """Whether some model satisfies the premises."""
    check_signature(signature)
    check_premises(signature, premises, "premises")
    return is_satisfied_somewhere(signature, premises)
