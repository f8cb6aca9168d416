"""What the tests of several modules share: wrong values, and the order in which arguments are checked."""

from itertools import product

from allsomeno.errors import BadValue

WRONG_INTEGERS = (-1, True, False, None, "0", (0,), [0])
WRONG_BOOLEANS = (0, 1, None, "True", (True,))
WRONG_SIGNATURES = (
    None, True, 2, "21", (), (2,), (2, 1, 0), [2, 1], (0, 1), (5, 1), (2, -1), (2, 3), (True, 1), (2, True),
    (2, False), ("2", 1), (2, None), ((2,), 1), (2, [1]),
)
# Values of every kind, for judges: none of them is a right one in all places, most are in none.
VALUES = (
    None, True, False, 0, 1, -1, 10 ** 30, "", "all", "open", "no model", (), [], (None,), [None], ((),), [()], ([],),
    ((), ()), ((), (), ()), [(), (), ()], ([], (), ()), ((), [], ()), ((), (), []), ((), (), (), ()), (0,), (True, 1),
    ("open",), ("no model",), ("no model", ()), ("no model", None), ("entailed", (), ()), ("refuted", (), ()),
    ("open", (), ()), ["open", (), ()], (["open"], (), ()), (("open",), (), ()), (None, (), ()), (0, 0, 0),
    ("clash",), (("clash",),), ("all", 0, 0), (("all", 0, 0),), (((1, ()),), (), ()), (((0, ()),), (), ()),
)
SIGNATURES = tuple((nouns, verbs) for nouns in range(1, 5) for verbs in range(3))


def sentences_of(signature):
    """All sentences in the order of point 14, written down from its words alone."""
    nouns, verbs = range(signature[0]), range(signature[1])
    quantifiers, truths = ("all", "some"), (True, False)
    found = []
    for word in ("all", "some not", "no", "some", "as many", "fewer"):
        found.extend((word, x, y) for x in nouns for y in nouns)
    places = (quantifiers, nouns, truths, verbs, truths, quantifiers, nouns)
    found.extend(("verb",) + items for items in product(*places))
    found.extend(("self",) + items for items in product(quantifiers, nouns, truths, verbs))
    return found


def with_item(row, at, value):
    """The tuple with another item at the index."""
    return row[:at] + (value,) + row[at + 1:]


def wrong_for(signature, value):
    """What can stand in the place of an item of a sentence or a kind, and is wrong there."""
    if isinstance(value, bool):
        return WRONG_BOOLEANS
    if isinstance(value, int):
        return WRONG_INTEGERS + (4,)
    return ("none", "", "All", "every", None, True, 0, (value,), [value])


def wrong_versions(signature, value):
    """Tuples near to a right sentence or kind, each with one thing wrong."""
    found = [list(value), value[:-1], value + (0,), value + (True,), value[1:], (value,), ()]
    for at, item in enumerate(value):
        found.extend(with_item(value, at, wrong) for wrong in wrong_for(signature, item))
    return found


def wrong_sentences(signature):
    """Many values that are no sentences of the signature."""
    found = [None, True, 0, "all", (), [], ("all",), ("verb",), ("self",), ("all", 0), ("one", 0)]
    for sentence in sentences_of(signature):
        found.extend(wrong_versions(signature, sentence))
    return found + [("all", signature[0], 0), ("no", 0, signature[0])]


def wrong_premises(signature):
    """Values that are no premises of the signature."""
    one = ("all", 0, 0)
    return (
        None, False, 0, "", [], [one], one, (one,) * 9, (one, list(one)), (one, None), (one, ("all", 0, True)),
        ((one,),), (one, ("some", 0, signature[0])), (one, ()), (("self", "all", 0, True, signature[1]),),
    )


def check_refusals(case, function, *parameters):
    """Each parameter is (name, a right value, wrong values): the first wrong one is the one that is named."""
    rights = [right for _, right, _ in parameters]
    function(*rights)
    for at, (name, _, wrongs) in enumerate(parameters):
        for wrong in wrongs:
            behind = [rights[at + 1:], [later[2][0] if later[2] else later[1] for later in parameters[at + 1:]]]
            for rest in behind:
                arguments = rights[:at] + [wrong] + list(rest)
                with case.subTest(function=function.__name__, arguments=arguments):
                    with case.assertRaises(BadValue) as caught:
                        function(*arguments)
                    case.assertEqual(caught.exception.name, name)
