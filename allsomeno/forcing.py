"""What premises force individuals of a kind to do, given which nouns are above the kinds."""

from allsomeno.tables import nouns_over


class Forcing:
    """What premises force; the table `inside` tells at [x][y] whether y is above the kinds that have x."""

    def __init__(self, inside, premises):
        self.inside = inside
        # The premises by (does, verb): nouns of doers and of those to whom they do it, and of doers alone.
        self.pairs = {}
        self.singles = {}
        # The same few kinds are asked for again and again, each against each.
        self.found = {}
        for premise in premises:
            if premise[:2] == ("verb", "all") and premise[6] == "all":
                _, _, x, does, v, by, _, y = premise
                self.pairs.setdefault((does, v), []).append((y, x) if by else (x, y))
            if premise[:2] == ("self", "all"):
                _, _, x, does, v = premise
                self.singles.setdefault((does, v), []).append(x)

    def nouns_above(self, kind):
        """The ascending tuple of the nouns above the kind."""
        if kind not in self.found:
            self.found[kind] = nouns_over(self.inside, kind)
        return self.found[kind]

    def is_between(self, does, verb, first, second):
        """Whether it is forced that the first kind does the verb to the second one (without `does`: does not)."""
        doers, targets = self.nouns_above(first), self.nouns_above(second)
        if first[0] == "mark" and first[2:5] == (does, verb, False) and first[5] in targets:
            return True
        if second[0] == "mark" and second[2:5] == (does, verb, True) and second[5] in doers:
            return True
        return any(x in doers and y in targets for x, y in self.pairs.get((does, verb), []))

    def is_alone(self, does, verb, kind):
        """Whether it is forced that each of the kind does the verb to itself (without `does`: does not)."""
        if kind[0] == "self" and kind[2:] == (does, verb):
            return True
        doers = self.nouns_above(kind)
        if any(x in doers for x in self.singles.get((does, verb), [])):
            return True
        return self.is_between(does, verb, kind, kind)
