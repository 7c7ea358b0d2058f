"""Signatures, terms, puttings, equations and kinds: what they are, and what is made of them."""

from deedworlds.basics import is_below, is_whole
from deedworlds.errors import NoEquation, NoKind, NoPlace, NoPutting, NoSignature, NoTerm, TooBig
from deedworlds.termwork import (
    exchanged, exchanged_many, fitting, part_at, parts_many, paths_of, variables_met, variables_of, with_part,
)

VARIABLES = ("u", "v", "w", "x", "y", "z")
NAME_LETTERS = "abcdefghijklmnopqrst"
MOST_NAME = 4
MOST_DEEDS = 4
MOST_PLACES = 2
MOST_PARTS = 60
MOST_SIDE = 12
MOST_LETTERS = 4
MOST_EQUATIONS = 8
MOST_SIZE = 6


def is_name(thing):
    """Whether it is a NAME."""
    if not isinstance(thing, str) or not 1 <= len(thing) <= MOST_NAME:
        return False
    return all([sign in NAME_LETTERS for sign in thing])


def is_deed(thing):
    """Whether it is a tuple of a NAME and how many places it has."""
    return (isinstance(thing, tuple) and len(thing) == 2 and is_name(thing[0])
            and is_below(thing[1], MOST_PLACES + 1))


def signature_wrong(thing):
    """None of a signature, else the first that is not so."""
    if not isinstance(thing, tuple) or not 1 <= len(thing) <= MOST_DEEDS:
        return ("signature",)
    for k, deed in enumerate(thing):
        if not is_deed(deed):
            return ("deed", k)
    names = [deed[0] for deed in thing]
    for k, name in enumerate(names):
        if name in names[:k]:
            return ("twice", k)
    return None


def need_signature(signature):
    """Refuse what is no signature."""
    if signature_wrong(signature) is not None:
        raise NoSignature("no signature")


def has_term_form(places, thing):
    """Whether it has a term's own form, whatever the things in its terms are."""
    if not isinstance(thing, tuple):
        return False
    if len(thing) == 2:
        return thing[0] == "var" and thing[1] in VARIABLES
    if len(thing) != 3 or thing[0] != "deed":
        return False
    name, terms = thing[1], thing[2]
    return (isinstance(name, str) and name in places
            and isinstance(terms, tuple) and len(terms) == places[name])


def wrong_in_term(places, thing):
    """What term_wrong tells, of the places of the deeds by their names."""
    many = 0
    todo = [((), thing)]
    while todo:
        path, part = todo.pop()
        if not has_term_form(places, part):
            return ("term", path)
        many += 1
        if part[0] == "deed":
            for k in reversed(range(len(part[2]))):
                todo.append((path + (k,), part[2][k]))
    return ("parts",) if many > MOST_PARTS else None


def term_wrong(signature, thing):
    """None of a term of the signature, else the first that is not so."""
    need_signature(signature)
    return wrong_in_term(dict(signature), thing)


def need_term(signature, term):
    """Refuse what is no signature, then what is no term of it."""
    if term_wrong(signature, term) is not None:
        raise NoTerm("no term")


def variables_in(signature, term):
    """The variables of a term, each once, in the order u to z."""
    need_term(signature, term)
    return variables_of([term])


def paths_in(signature, term):
    """The paths of a term, in the order of places."""
    need_term(signature, term)
    return paths_of(term)


def is_path(term, thing):
    """Whether it is a path of the term."""
    if not isinstance(thing, tuple):
        return False
    for number in thing:
        if term[0] == "var" or not is_whole(number) or not 0 <= number < len(term[2]):
            return False
        term = term[2][number]
    return True


def need_path(term, path):
    """Refuse what is no path of the term."""
    if not is_path(term, path):
        raise NoPlace("no path of the term")


def term_at(signature, term, path):
    """The part of a term at a path."""
    need_term(signature, term)
    need_path(term, path)
    return part_at(term, path)


def put_at(signature, term, path, other):
    """The term with another one at a path."""
    need_term(signature, term)
    need_path(term, path)
    need_term(signature, other)
    if parts_many(term) - parts_many(part_at(term, path)) + parts_many(other) > MOST_PARTS:
        raise TooBig("too many parts")
    return with_part(term, path, other)


def is_putting(signature, thing):
    """Whether it is a dict from variables to terms."""
    if not isinstance(thing, dict):
        return False
    for name in thing:
        if name not in VARIABLES or term_wrong(signature, thing[name]) is not None:
            return False
    return True


def put_in(signature, term, putting):
    """The term with the putting's terms for its variables, all at once."""
    need_term(signature, term)
    if not is_putting(signature, putting):
        raise NoPutting("no putting")
    if exchanged_many(term, putting) > MOST_PARTS:
        raise TooBig("too many parts")
    return exchanged(term, putting)


def matched(signature, pattern, term):
    """The putting that makes the term of the pattern, or None."""
    need_term(signature, pattern)
    need_term(signature, term)
    return fitting(pattern, term)


def letters_for(terms):
    """The putting of u, v, w and so on for the variables of some terms, as they first come."""
    met = []
    for term in terms:
        met.extend([name for name in variables_met(term) if name not in met])
    return {name: ("var", letter) for name, letter in zip(met, VARIABLES)}


def lettered(signature, term):
    """The term with its variables, as they first come, exchanged for u, v, w and so on."""
    need_term(signature, term)
    return exchanged(term, letters_for([term]))


def equation_wrong(signature, thing):
    """None of an equation of the signature, else the first that is not so."""
    need_signature(signature)
    if not isinstance(thing, tuple) or len(thing) != 2:
        return ("equation",)
    for word, side in zip(("left", "right"), thing):
        wrong = term_wrong(signature, side)
        if wrong is not None:
            return (word, wrong)
    for k, side in enumerate(thing):
        if parts_many(side) > MOST_SIDE:
            return ("side", k)
    return ("letters",) if len(variables_of(thing)) > MOST_LETTERS else None


def need_equation(signature, equation):
    """Refuse what is no signature, then what is no equation of it."""
    if equation_wrong(signature, equation) is not None:
        raise NoEquation("no equation")


def letters_of(signature, equation):
    """The variables of both sides, in the order u to z."""
    need_equation(signature, equation)
    return variables_of(equation)


def kind_wrong(thing):
    """None of a kind, else the first that is not so."""
    if not isinstance(thing, tuple) or len(thing) != 2:
        return ("kind",)
    signature, equations = thing
    wrong = signature_wrong(signature)
    if wrong is not None:
        return ("signature", wrong)
    if not isinstance(equations, tuple) or len(equations) > MOST_EQUATIONS:
        return ("equations",)
    for k, equation in enumerate(equations):
        wrong = equation_wrong(signature, equation)
        if wrong is not None:
            return ("equation", k, wrong)
    return None


def need_kind(kind):
    """Refuse what is no kind."""
    if kind_wrong(kind) is not None:
        raise NoKind("no kind")
