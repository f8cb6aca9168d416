"""What the document says, counted from the individuals one by one, without the program."""

from itertools import product


def homes_of(model):
    """The group of each individual."""
    return [group for group, (size, _) in enumerate(model[0]) for _ in range(size)]


def has(model, homes, one, noun):
    return noun in model[0][homes[one]][1]


def acts(model, homes, verb, one, other):
    """Whether the one individual does the verb to the other one (point 21)."""
    if one == other:
        return homes[one] in model[2][verb]
    return homes[other] in model[1][verb][homes[one]]


def told(word, answers):
    return all(answers) if word == "all" else any(answers)


def holds_of(model, homes, sentence, one):
    """Whether what a sentence with "verb" or "self" says of its x is so for the one individual."""
    if sentence[0] == "self":
        _, _, _, does, verb = sentence
        return acts(model, homes, verb, one, one) == does
    _, _, _, does, verb, by, p, y = sentence
    answers = []
    for other in range(len(homes)):
        if has(model, homes, other, y):
            done = acts(model, homes, verb, other, one) if by else acts(model, homes, verb, one, other)
            answers.append(done == does)
    return told(p, answers)


def truth(model, sentence):
    """Whether the sentence holds in the model (point 6)."""
    homes = homes_of(model)
    everyone = range(len(homes))
    word = sentence[0]
    if word in ("verb", "self"):
        chosen = [one for one in everyone if has(model, homes, one, sentence[2])]
        return told(sentence[1], [holds_of(model, homes, sentence, one) for one in chosen])
    with_x = [one for one in everyone if has(model, homes, one, sentence[1])]
    with_y = [one for one in everyone if has(model, homes, one, sentence[2])]
    return {
        "all": all(one in with_y for one in with_x),
        "some not": any(one not in with_y for one in with_x),
        "no": not any(one in with_y for one in with_x),
        "some": any(one in with_y for one in with_x),
        "as many": len(with_x) >= len(with_y),
        "fewer": len(with_x) < len(with_y),
    }[word]


def is_of_kind(model, homes, one, kind):
    """Whether the one individual is of the kind (point 33)."""
    if not has(model, homes, one, kind[1]):
        return False
    if kind[0] == "both":
        return has(model, homes, one, kind[2])
    if kind[0] == "self":
        return acts(model, homes, kind[3], one, one) == kind[2]
    if kind[0] == "mark":
        return holds_of(model, homes, ("verb", "all", kind[1]) + kind[2:5] + ("all", kind[5]), one)
    return True


def part_of(many, rank):
    """The ascending tuple of the numbers whose bit is set."""
    return tuple(at for at in range(many) if rank >> at & 1)


def is_model_of(model, premises):
    """Whether all of the premises hold in the model."""
    return all(truth(model, premise) for premise in premises)


def small_models(signature, most):
    """All models with at most so many individuals, each in a group of its own."""
    nouns, verbs = signature
    found = []
    for many in range(most + 1):
        each = [part_of(nouns, rank) for rank in range(2 ** nouns)]
        rows = [part_of(many, rank) for rank in range(2 ** many)]
        tables = [
            tuple(table) for table in product(rows, repeat=many) if not any(at in table[at] for at in range(many))
        ]
        for groups in product(each, repeat=many):
            for told_verbs in product(tables, repeat=verbs):
                for selves in product(rows, repeat=verbs):
                    found.append((tuple((1, one) for one in groups), tuple(told_verbs), tuple(selves)))
    return found


class Stream:
    """A fixed sequence of numbers that looks mixed, the same in every run."""

    def __init__(self, seed):
        self.state = seed

    def below(self, bound):
        self.state = (self.state * 6364136223846793005 + 1442695040888963407) % 2 ** 64
        return (self.state >> 33) % bound

    def part(self, many):
        return tuple(at for at in range(many) if self.below(2))


def mixed_model(signature, stream, most_groups=5, most_size=3):
    """A model of at most so many groups, of at most so many individuals each."""
    nouns, verbs = signature
    many = stream.below(most_groups + 1)
    groups = tuple((1 + stream.below(most_size), stream.part(nouns)) for _ in range(many))
    rows = tuple(tuple(stream.part(many) for _ in range(many)) for _ in range(verbs))
    return (groups, rows, tuple(stream.part(many) for _ in range(verbs)))


def moved(model, order):
    """The model with its groups in another order: the group at a place is the one that the order names there."""
    groups, verbs, selves = model
    place = {group: at for at, group in enumerate(order)}

    def row(old):
        return tuple(sorted(place[group] for group in old))

    return (
        tuple(groups[group] for group in order),
        tuple(tuple(row(rows[group]) for group in order) for rows in verbs),
        tuple(row(old) for old in selves),
    )


def all_pairs(nouns, premises):
    """The pairs of the two tables of point 32, the nouns with themselves included."""
    inside, enough = {(x, x) for x in range(nouns)}, set()
    for premise in premises:
        if premise[0] == "all":
            inside.add(premise[1:])
        elif premise[0] == "as many":
            enough.add(premise[1:])
        elif premise[0] == "fewer":
            enough.add((premise[2], premise[1]))
    while True:
        size = len(inside) + len(enough)
        inside |= {(x, y) for x, z in inside for other, y in inside if z == other}
        inside |= {(x, y) for y, x in inside if (y, x) in enough}
        enough |= {(x, y) for y, x in inside}
        enough |= {(x, y) for x, z in enough for other, y in enough if z == other}
        if len(inside) + len(enough) == size:
            return inside, enough


def stated(premises):
    """The kinds that the premises state (point 34), in sequence, each once."""
    found = []
    for premise in premises:
        if premise[0] == "some":
            found.append(("one", premise[1]) if premise[1] == premise[2] else ("both",) + tuple(sorted(premise[1:])))
        elif premise[0] == "some not":
            found.append(("one", premise[1]))
        elif premise[0] == "fewer":
            found.append(("one", premise[2]))
        elif premise[0] == "verb" and premise[1] == "some" and premise[6] == "some":
            found += [("one", premise[2]), ("one", premise[7])]
        elif premise[0] == "verb" and premise[1] == "some":
            found.append(("mark",) + premise[2:6] + premise[7:])
        elif premise[0] == "self" and premise[1] == "some":
            found.append(("self",) + premise[2:])
    return [kind for at, kind in enumerate(found) if kind not in found[:at]]


def above(nouns, premises, kind):
    """The nouns above a kind (point 33)."""
    own = kind[1:3] if kind[0] == "both" else kind[1:2]
    inside, _ = all_pairs(nouns, premises)
    return tuple(y for y in range(nouns) if any((x, y) in inside for x in own))


def required(nouns, premises):
    """The required nouns (point 35)."""
    inside, enough = all_pairs(nouns, premises)
    found = {x for kind in stated(premises) for x in above(nouns, premises, kind)}
    while True:
        size = len(found)
        found |= {y for x, y in inside if x in found}
        found |= {y for y, x in enough if x in found}
        for premise in premises:
            if premise[:2] == ("verb", "all") and premise[6] == "some" and premise[2] in found:
                found.add(premise[7])
        if len(found) == size:
            return tuple(sorted(found))


def forced(nouns, premises, does, verb, first, second):
    """Whether it is forced from the first kind to the second one (point 37)."""
    over_first, over_second = above(nouns, premises, first), above(nouns, premises, second)
    for x in over_first:
        for y in over_second:
            if ("verb", "all", x, does, verb, False, "all", y) in premises:
                return True
            if ("verb", "all", y, does, verb, True, "all", x) in premises:
                return True
    for y in over_second:
        if first in [("mark", z, does, verb, False, y) for z in range(nouns)]:
            return True
    for x in over_first:
        if second in [("mark", z, does, verb, True, x) for z in range(nouns)]:
            return True
    return False


def forced_alone(nouns, premises, does, verb, kind):
    """Whether it is forced from the kind to itself, each to itself (point 37)."""
    if forced(nouns, premises, does, verb, kind, kind):
        return True
    if any(("self", "all", x, does, verb) in premises for x in above(nouns, premises, kind)):
        return True
    return kind in [("self", z, does, verb) for z in range(nouns)]


def word_of(yes, no):
    return {(True, False): "yes", (False, True): "no", (True, True): "both", (False, False): "free"}[(yes, no)]


def kinds_of(signature):
    """All kinds of the signature (point 33)."""
    nouns, verbs, truths = range(signature[0]), range(signature[1]), (True, False)
    found = [("one", x) for x in nouns] + [("both", x, y) for x in nouns for y in nouns if x < y]
    found += [("mark",) + items for items in product(nouns, truths, verbs, truths, nouns)]
    return found + [("self",) + items for items in product(nouns, truths, verbs)]


def mixed_premises(sentences, stream, most=8):
    """Up to so many of the sentences, those with nouns alone as often as the others."""
    short = [one for one in sentences if len(one) == 3]
    found = []
    for _ in range(stream.below(most + 1)):
        chosen = short if stream.below(2) else sentences
        found.append(chosen[stream.below(len(chosen))])
    return tuple(found)
