"""The tokens of a text."""

from allsomeno.errors import BadValue, TextError
from allsomeno.naming import MOST_LETTERS, is_letter

MOST_CHARACTERS = 600
BLANK = " "
SIGN = ";"


def check_text(text):
    """Raise BadValue if it is not a text."""
    if not isinstance(text, str) or len(text) > MOST_CHARACTERS or "\n" in text:
        raise BadValue("text")


def _letters_at(text, at):
    """The letters from this place on, as many as stand side by side."""
    end = at
    while end < len(text) and is_letter(text[end]):
        end += 1
    return text[at:end]


def _token_at(text, at):
    """The kind and the characters of the token that begins at this place."""
    if text[at] == SIGN:
        return ("sign", SIGN)
    letters = _letters_at(text, at)
    if letters == "":
        raise TextError(at + 1, "no token begins here")
    if len(letters) > MOST_LETTERS:
        raise TextError(at + 1, f"a word has at most {MOST_LETTERS} letters")
    return ("word", letters)


def tokens_of(text):
    """The list of the tokens of a text that has been checked."""
    tokens = []
    at = 0
    while at < len(text):
        if text[at] == BLANK:
            at += 1
        else:
            kind, characters = _token_at(text, at)
            tokens.append((kind, characters, at + 1))
            at += len(characters)
    tokens.append(("end", "", len(text) + 1))
    return tokens


def scan(text):
    """The list of the tokens of a text, each a tuple (kind, characters, column); the last one is the end."""
    check_text(text)
    return tokens_of(text)
