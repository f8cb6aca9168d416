"""Chapters 10 and 11 worked out a second time, in the words of the document, without the program."""

import re

from tests.second import canonical_of, conflicts_of

RESERVED = ("all", "some", "no", "not", "are", "as", "many", "fewer", "than", "by", "self")
ORDER = ["a noun", "a verb"] + [f'"{word}"' for word in RESERVED] + ['";"', "the end"]
TERMINALS = {"NOUN": "a noun", "VERB": "a verb", "END": "the end"}
NOT_HERE = "no token begins here"
TOO_LONG = "a word has at most 8 letters"
TOO_MANY = "there are at most 8 sentences"
# The grammars as they stand in point 111.
GRAMMAR_TEXT = """
ALONE    = SENTENCE END
PREMISES = [ SENTENCE { ";" SENTENCE } ] END
SENTENCE = "all" NOUN "are" NOUN | "some" NOUN "are" [ "not" ] NOUN | "no" NOUN "are" NOUN
         | "as" "many" NOUN "as" NOUN | "fewer" NOUN "than" NOUN
         | Q NOUN [ "not" ] VERB "self" | Q NOUN [ "not" ] VERB [ "by" ] Q NOUN
Q        = "all" | "some"
"""
STARTS = {"sentence": "ALONE", "premises": "PREMISES"}
NAMES = {
    (nouns, verbs): (("clerk", "scribe", "a", "zzzzzzzz")[:nouns], ("see", "know")[:verbs])
    for nouns in range(1, 5) for verbs in range(3)
}


def choices_from(pieces, closing):
    """The choices, each a tuple of items, up to the closing sign; the pieces are taken off the list."""
    choices = [()]
    while pieces and pieces[0] != closing:
        piece = pieces.pop(0)
        if piece == "|":
            choices.append(())
        elif piece in "[{":
            inner = choices_from(pieces, "]" if piece == "[" else "}")
            choices[-1] += ((piece, tuple(inner)),)
        else:
            choices[-1] += (piece,)
    if closing:
        pieces.pop(0)
    return choices


def grammar():
    """The rules of the grammars: for each name its choices, each a tuple of items."""
    rules = {}
    for rule in re.findall(r"(\w+) +=((?:(?!\w+ +=)[^=])*)", GRAMMAR_TEXT):
        rules[rule[0]] = choices_from(re.findall(r'"[^"]*"|\w+|[][{}|]', rule[1]), "")
    return rules


GRAMMAR = grammar()


def can_be_ended(item, verbs):
    """Whether there is a text of the item, with or without verbs."""
    if isinstance(item, tuple):
        return True
    if item in GRAMMAR:
        return any(all(can_be_ended(part, verbs) for part in choice) for choice in GRAMMAR[item])
    return verbs or item != "VERB"


def ways_on(stack, verbs):
    """All pairs (what comes first, the items behind it) of the texts of a tuple of items."""
    if not stack:
        return set()
    first, rest = stack[0], stack[1:]
    if isinstance(first, tuple):
        again = (first,) + rest if first[0] == "{" else rest
        found = ways_on(rest, verbs)
        for choice in first[1]:
            found |= ways_on(choice + again, verbs)
        return found
    if first in GRAMMAR:
        return set().union(*[ways_on(choice + rest, verbs) for choice in GRAMMAR[first]])
    if not all(can_be_ended(item, verbs) for item in stack):
        return set()
    return {(TERMINALS.get(first, first), rest)}


def told(names, token):
    """What a token is, in the words of point 113; None if it can come nowhere."""
    kind, characters, _ = token
    if kind == "end":
        return "the end"
    if characters in names[0]:
        return "a noun"
    if characters in names[1]:
        return "a verb"
    return f'"{characters}"' if characters in RESERVED or kind == "sign" else None


def in_order(ways):
    return [word for word in ORDER if word in {first for first, _ in ways}]


def expected(words):
    """The words of the problem (point 113)."""
    return "expected " + (words[0] if len(words) == 1 else ", ".join(words[:-1]) + " or " + words[-1])


def coming(names, tokens, kind):
    """The list of what can come behind the tokens, or the column and the words of the problem."""
    verbs = names[1] != ()
    ways = ways_on((STARTS[kind],), verbs)
    for token in tokens:
        rests = [rest for first, rest in ways if first == told(names, token)]
        if not rests:
            return (token[2], expected(in_order(ways)))
        ways = set().union(*[ways_on(rest, verbs) for rest in rests])
    return in_order(ways)


def scanned(text):
    """The tokens of a text (point 110), or the column and the words of its first problem."""
    found = []
    for match in re.finditer(r"[a-z]+|;|[^ ]", text, re.DOTALL):
        characters, column = match.group(), match.start() + 1
        if characters == ";":
            found.append(("sign", ";", column))
        elif not re.fullmatch("[a-z]+", characters):
            return (column, NOT_HERE)
        elif len(characters) > 8:
            return (column, TOO_LONG)
        else:
            found.append(("word", characters, column))
    return found + [("end", "", len(text) + 1)]


def next_by(names, text, kind):
    """What next_tokens returns, a list, or the column and the words of its TextError."""
    tokens = scanned(text)
    return coming(names, tokens[:-1], kind) if isinstance(tokens, list) else tokens


def problem_by(names, text, kind):
    """The column and the words of the problem of a text, or None if it has none."""
    tokens = scanned(text)
    if isinstance(tokens, tuple):
        return tokens
    found = coming(names, tokens, kind)
    if isinstance(found, tuple):
        return found
    firsts = [token for before, token in zip(tokens, tokens[1:]) if before[0] == "sign"]
    return (firsts[7][2], TOO_MANY) if len(firsts) > 7 else None


def text_by(names, sentence):
    """The text of a sentence (points 112 and 115)."""
    nouns, verbs = names
    if sentence[0] in ("verb", "self"):
        begun = [sentence[1], nouns[sentence[2]]] + ([] if sentence[3] else ["not"]) + [verbs[sentence[4]]]
        if sentence[0] == "self":
            return " ".join(begun + ["self"])
        return " ".join(begun + (["by"] if sentence[5] else []) + [sentence[6], nouns[sentence[7]]])
    pattern = {
        "all": "all {} are {}", "some": "some {} are {}", "some not": "some {} are not {}", "no": "no {} are {}",
        "as many": "as many {} as {}", "fewer": "fewer {} than {}",
    }[sentence[0]]
    return pattern.format(nouns[sentence[1]], nouns[sentence[2]])


class Course:
    """The course of a debate: all that points 119 to 125 say of it, from its commands alone."""

    def __init__(self, signature, commands=()):
        self.signature, self.commands = signature, list(commands)

    def assertions(self, many=None):
        """The assertions behind so many commands, or behind all."""
        found = []
        for command in self.commands[:many]:
            if command[0] == "assert":
                found.append(command[1:])
            else:
                del found[command[1]]
        return tuple(found)

    def sentences(self, speaker, many=None):
        return tuple(sentence for one, sentence in self.assertions(many) if one == speaker)

    def has_model(self, sentences):
        return conflicts_of(self.signature, sentences) == ()

    def refusal(self, command):
        """The word or the words for what keeps the command from being carried out, or None."""
        if command[0] == "withdraw":
            if command[1] >= len(self.assertions()):
                return "missing"
        elif len(self.assertions()) == 8:
            return "many"
        elif not self.has_model(self.sentences(command[1]) + command[2:]):
            return "self"
        return "commands" if len(self.commands) == 20 else None

    def disputes(self):
        pairs = [(one, other) for one in range(6) for other in range(one + 1, 6)]
        return tuple(
            pair for pair in pairs if not self.has_model(self.sentences(pair[0]) + self.sentences(pair[1])))

    def can_hold(self):
        return self.has_model(tuple(sentence for _, sentence in self.assertions()))

    def records(self):
        found = []
        for at, command in enumerate(self.commands):
            model = None
            if command[0] == "assert":
                model = canonical_of(self.signature, self.sentences(command[1], at + 1))
            found.append((command, model))
        return tuple(found)
