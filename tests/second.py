"""Chapters 4 to 7 worked out a second time, in the words of the document, without the program."""

from itertools import combinations

from tests.reference import all_pairs, required, stated

OPPOSITES = {
    "all": "some not", "some not": "all", "no": "some", "some": "no", "as many": "fewer", "fewer": "as many",
}
OTHER = {"all": "some", "some": "all"}


def negation_of(sentence):
    """The negation (point 9)."""
    if sentence[0] not in ("verb", "self"):
        return (OPPOSITES[sentence[0]],) + sentence[1:]
    turned = sentence[:1] + (OTHER[sentence[1]], sentence[2], not sentence[3]) + sentence[4:]
    return turned if sentence[0] == "self" else turned[:6] + (OTHER[turned[6]],) + turned[7:]


class Basis:
    """Subsets, at least as many and kinds, as sets of pairs and a list, and what is forced with them."""

    def __init__(self, premises, inside, enough, kinds):
        self.premises, self.inside, self.enough, self.kinds = premises, inside, enough, kinds

    def over(self, kind):
        """The nouns above a kind: its own, and those of which one of them is a subset."""
        own = kind[1:3] if kind[0] == "both" else kind[1:2]
        return set(own) | {y for x, y in self.inside if x in own}

    def forced(self, does, verb, first, second):
        """Whether it is forced from the first kind to the second one (point 37)."""
        firsts, seconds = self.over(first), self.over(second)
        pairs = {(x, y) for x in firsts for y in seconds}
        for premise in self.premises:
            if premise[:2] == ("verb", "all") and premise[3:5] == (does, verb) and premise[6] == "all":
                if (premise[7], premise[2]) in pairs if premise[5] else (premise[2], premise[7]) in pairs:
                    return True
        if first[0] == "mark" and first[2:5] == (does, verb, False) and first[5] in seconds:
            return True
        return second[0] == "mark" and second[2:5] == (does, verb, True) and second[5] in firsts

    def alone(self, does, verb, kind):
        """Whether it is forced from the kind to itself, each to itself (point 37)."""
        told = any(("self", "all", x, does, verb) in self.premises for x in self.over(kind))
        return told or self.forced(does, verb, kind, kind) or (kind[0] == "self" and kind[2:] == (does, verb))


def basis_of(signature, premises):
    """What the premises themselves force."""
    inside, enough = all_pairs(signature[0], premises)
    singles = [("one", x) for x in required(signature[0], premises)]
    return Basis(premises, inside, enough, singles + [kind for kind in stated(premises) if kind[0] != "one"])


def basis_of_lines(premises, lines):
    """What the lines of a proof say (point 56), with the premises."""
    pairs = {word: {line[1:] for line in lines if line[0] == word} for word in ("all", "as many")}
    kinds = [line for line in lines if line[0] in ("one", "both", "mark", "self")]
    return Basis(premises, pairs["all"], pairs["as many"], kinds)


def clashes_with(basis, premise):
    """Whether the premise is a conflict (point 44)."""
    word = premise[0]
    if word == "no":
        return any({premise[1], premise[2]} <= basis.over(kind) for kind in basis.kinds)
    if word == "some not":
        return premise[1:] in basis.inside
    if word == "fewer":
        return premise[1:] in basis.enough
    if word != "verb" or premise[6] != "some":
        return False
    _, q, x, does, v, by, _, y = premise
    seen = ("one", y)
    if q == "some":
        kinds = [("one", x)]
    else:
        kinds = [kind for kind in basis.kinds if x in basis.over(kind)]
    return any(
        basis.forced(not does, v, seen, kind) if by else basis.forced(not does, v, kind, seen) for kind in kinds)


def conflicts_with(basis, verbs):
    """The conflicts, in order (point 44)."""
    found = [("premise", index) for index, premise in enumerate(basis.premises) if clashes_with(basis, premise)]
    for verb in range(verbs):
        for first in basis.kinds:
            for second in basis.kinds:
                if all(basis.forced(does, verb, first, second) for does in (True, False)):
                    found.append(("pair", verb, first, second))
        for kind in basis.kinds:
            if all(basis.alone(does, verb, kind) for does in (True, False)):
                found.append(("self", verb, kind))
    return tuple(found)


def conflicts_of(signature, premises):
    return conflicts_with(basis_of(signature, premises), signature[1])


def sizes_of(signature, premises):
    """The size of each group (points 46 and 47), by its kind and copy, in no order."""
    basis = basis_of(signature, premises)
    nouns = [kind[1] for kind in basis.kinds if kind[0] == "one"]
    sizes = {(kind, copy): 1 for kind in basis.kinds for copy in (0, 1, 2) if kind[0] != "one" or copy > 0}
    for x in nouns:
        if any((y, x) in basis.inside and (x, y) in basis.inside for y in range(x)):
            sizes[(("one", x), 0)] = 1
    last = 0
    for level in (1, 2, 3, 4):
        here = [x for x in nouns if sum((x, y) in basis.enough for y in nouns) == level]
        open_ones = [x for x in here if (("one", x), 0) not in sizes]
        known = {x: sum(size for (kind, _), size in sizes.items() if x in basis.over(kind)) for x in open_ones}
        if here:
            last = 1 + max([last] + list(known.values()))
        for x in open_ones:
            sizes[(("one", x), 0)] = last - known[x]
    return sizes


def does_to(basis, verb, one, other):
    """Whether individuals of a group do the verb to different ones of a group, each told by (kind, copy)."""
    if basis.forced(True, verb, one[0], other[0]):
        return True
    return not basis.forced(False, verb, one[0], other[0]) and other[1] == {0: 1, 1: 2, 2: 0}[one[1]]


def canonical_of(signature, premises):
    """The canonical model (points 46 and 47) of premises without a conflict."""
    basis, sizes = basis_of(signature, premises), sizes_of(signature, premises)
    places = [(kind, copy) for kind in basis.kinds for copy in (0, 1, 2)]
    groups = tuple((sizes[place], tuple(sorted(basis.over(place[0])))) for place in places)
    rows, selves = [], []
    for verb in range(signature[1]):
        rows.append(tuple(
            tuple(at for at, other in enumerate(places) if does_to(basis, verb, one, other)) for one in places))
        selves.append(tuple(at for at, place in enumerate(places) if basis.alone(True, verb, place[0])))
    return (groups, tuple(rows), tuple(selves))


def facts_of(signature, kinds):
    """All facts of the signature (point 55), given its kinds."""
    nouns = range(signature[0])
    return [(word, x, y) for word in ("all", "as many") for x in nouns for y in nouns] + kinds + [("clash",)]


def is_step(signature, premises, lines, fact):
    """Whether the fact follows from the lines (point 56)."""
    basis, nouns, word = basis_of_lines(premises, lines), range(signature[0]), fact[0]
    if word == "clash":
        return conflicts_with(basis, signature[1]) != ()
    if word == "all":
        _, x, y = fact
        steps = {(x, z) for z in nouns if (x, z) in basis.inside and (z, y) in basis.inside}
        both = (y, x) in basis.inside and (y, x) in basis.enough
        return x == y or fact in premises or both or steps != set()
    if word == "as many":
        _, x, y = fact
        steps = {(x, z) for z in nouns if (x, z) in basis.enough and (z, y) in basis.enough}
        return fact in premises or ("fewer", y, x) in premises or (y, x) in basis.inside or steps != set()
    if fact in stated(premises):
        return True
    if word != "one":
        return False
    lead = {fact[1]} | {y for x, y in basis.enough if x == fact[1]}
    lead |= {one[2] for one in premises if one[:2] == ("verb", "all") and one[6:] == ("some", fact[1])}
    return any(lead & basis.over(kind) for kind in basis.kinds)


def is_accepted(signature, premises, lines):
    """Whether the proof is accepted (point 58)."""
    if not all(is_step(signature, premises, lines[:at], line) for at, line in enumerate(lines)):
        return False
    return lines != () and lines[-1] == ("clash",)


def all_that_comes(signature, premises):
    """The lines of point 60, ahead of the clash, before any is taken away."""
    nouns, lines = range(signature[0]), ()
    facts = [("all", x, y) for x in nouns for y in nouns] + [("as many", x, y) for x in nouns for y in nouns]
    facts += stated(premises) + [("one", x) for x in nouns]
    while True:
        before = lines
        for fact in facts:
            if fact not in lines and is_step(signature, premises, lines, fact):
                lines += (fact,)
        if lines == before:
            return lines


def told_proof_of(signature, premises):
    """The told proof (point 60) of premises with a conflict."""
    proof = all_that_comes(signature, premises) + (("clash",),)
    at = len(proof) - 2
    while at >= 0:
        without = proof[:at] + proof[at + 1:]
        if is_accepted(signature, premises, without):
            proof = without
        at -= 1
    return proof


def parts_of(many):
    """All parts of so many premises, in order by size (point 78)."""
    return [part for size in range(many + 1) for part in combinations(range(many), size)]


def reasons_by(many, enough):
    """The reasons (point 79), given by `enough` which parts of so many premises are."""
    good = [part for part in parts_of(many) if enough[part]]
    return [part for part in good if not any(set(other) < set(part) for other in good)]


def removal_by(many, enough):
    """The removal (point 81), likewise; None if there is none."""
    for part in parts_of(many):
        if not enough[tuple(index for index in range(many) if index not in part)]:
            return part
    return None
