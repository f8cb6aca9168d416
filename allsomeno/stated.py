"""The kinds of individuals that premises state, and the nouns of a kind."""


def nouns_of(kind):
    """The nouns of the kind."""
    return kind[1:3] if kind[0] == "both" else kind[1:2]


def _stated_by(premise):
    """The kinds that the premise states, in sequence."""
    word = premise[0]
    if word == "some":
        x, y = min(premise[1:]), max(premise[1:])
        return [("one", x)] if x == y else [("both", x, y)]
    if word == "some not":
        return [("one", premise[1])]
    if word == "fewer":
        return [("one", premise[2])]
    if word == "verb" and premise[1] == "some":
        _, _, x, does, v, by, p, y = premise
        return [("one", x), ("one", y)] if p == "some" else [("mark", x, does, v, by, y)]
    if word == "self" and premise[1] == "some":
        _, _, x, does, v = premise
        return [("self", x, does, v)]
    return []


def kinds_stated(premises):
    """The list of the kinds that the premises state, in their sequence, each once."""
    kinds = []
    for premise in premises:
        for kind in _stated_by(premise):
            if kind not in kinds:
                kinds.append(kind)
    return kinds
