"""The grammar of sentences and premises: what can come at each place of a text."""

from allsomeno.naming import RESERVED
from allsomeno.scanning import SIGN
from allsomeno.sentences import QUANTIFIERS

NOUN = "a noun"
VERB = "a verb"
END = "the end"
KINDS = ("sentence", "premises")
FORMS_WITHOUT_VERBS = (
    ("all", "a noun", "are", "a noun"),
    ("some", "a noun", "are", "a noun"),
    ("some", "a noun", "are", "not", "a noun"),
    ("no", "a noun", "are", "a noun"),
    ("as", "many", "a noun", "as", "a noun"),
    ("fewer", "a noun", "than", "a noun"),
)


def _forms_with_verbs():
    forms = []
    for q in QUANTIFIERS:
        for beginning in ((q, NOUN, VERB), (q, NOUN, "not", VERB)):
            forms.append(beginning + ("self",))
            for p in QUANTIFIERS:
                forms.append(beginning + (p, NOUN))
                forms.append(beginning + ("by", p, NOUN))
    return tuple(forms)


def forms_of(names):
    """All forms of a sentence: a noun, a verb or a reserved word at each place."""
    # Without verbs the forms that have one cannot be ended, so nothing that leads to a verb can come.
    return FORMS_WITHOUT_VERBS + _forms_with_verbs() if names[1] else FORMS_WITHOUT_VERBS


def part_of_speech(names, token):
    """What the token is in a form: a noun, a verb, the end, or else its own characters."""
    kind, characters, _ = token
    if kind == "end":
        return END
    if characters in names[0]:
        return NOUN
    return VERB if characters in names[1] else characters


def _behind_a_sentence(kind):
    return (END,) if kind == "sentence" else (SIGN, END)


def what_can_come(forms, kind, begun, is_first):
    """What can come, in order, behind the places of a sentence that is begun; `is_first` if none is ahead of it."""
    if begun in forms:
        return _behind_a_sentence(kind)
    many = len(begun)
    # What is begun is no form, so each form with this beginning has more places.
    found = [form[many] for form in forms if form[:many] == begun]
    if kind == "premises" and is_first and begun == ():
        found.append(END)
    return tuple([one for one in (NOUN, VERB) + RESERVED + (SIGN, END) if one in found])


def told_words(parts):
    """The list of the words for what can come: reserved words and the sign stand between quotation marks."""
    return [part if part in (NOUN, VERB, END) else f'"{part}"' for part in parts]


def told_problem(parts):
    """The words of the problem where none of these comes."""
    words = told_words(parts)
    if len(words) == 1:
        return f"expected {words[0]}"
    earlier = ", ".join(words[:-1])
    return f"expected {earlier} or {words[-1]}"
