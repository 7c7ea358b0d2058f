"""Small terms, which of them go together in all small models, and the equations that these models keep."""

from deedworlds.basics import is_below, is_whole, row_at_place
from deedworlds.counting import all_models
from deedworlds.errors import NoNumber, TooMany
from deedworlds.lowering import Lowering
from deedworlds.models import need_size, unlike_places
from deedworlds.plain import plain
from deedworlds.searchwork import model_leaves
from deedworlds.smallterms import all_small_terms, lots_by_columns, many_by_parts
from deedworlds.terms import equation_wrong, need_equation, need_kind, need_signature, need_term
from deedworlds.termwork import text_of, variables_of
from deedworlds.texts import least_equation

MOST_SMALL = 400
MOST_DOWN = 500
MOST_TOLD = 100
MOST_SMALL_PARTS = 5
MOST_SMALL_LETTERS = 2


def need_bounds(signature, parts, letters):
    """Refuse what are no bounds of small terms, then those of which there are too many."""
    if not is_whole(parts) or not 1 <= parts <= MOST_SMALL_PARTS or not is_below(letters, MOST_SMALL_LETTERS + 1):
        raise NoNumber("no bounds of small terms")
    if sum(many_by_parts(signature, parts, letters)) > MOST_SMALL:
        raise TooMany("too many small terms")


def small_terms(signature, *, parts=4, letters=2):
    """All terms of at most so many parts and letters, in order."""
    need_signature(signature)
    need_bounds(signature, parts, letters)
    return all_small_terms(signature, parts, letters)


def classes(kind, size, *, parts=4, letters=2):
    """The lists of small terms that come to the same in all models of the kind up to a size."""
    need_kind(kind)
    need_size(size)
    terms = small_terms(kind[0], parts=parts, letters=letters)
    models = []
    for here in range(1, size + 1):
        models.extend([(here, tables) for tables in model_leaves(plain(kind, here))])
    lots = lots_by_columns(kind[0], models, letters, terms)
    return [[terms[place] for place in lot] for lot in lots]


def need_equations(signature, equations):
    """Refuse what is no signature, then a thing in the list that is no equation of it."""
    need_signature(signature)
    for equation in equations:
        need_equation(signature, equation)


def down(signature, equations, term):
    """The lines along which a term is led down, till no equation leads it further."""
    need_equations(signature, equations)
    need_term(signature, term)
    return Lowering(equations).lines_down(term, MOST_DOWN)


def low_of(signature, equations, term):
    """The last term on the way down."""
    return down(signature, equations, term)[-1][0]


def is_one_low(lowering, pair):
    """Whether two terms have one low term."""
    return lowering.low_number(pair[0], MOST_DOWN) == lowering.low_number(pair[1], MOST_DOWN)


def pairs_together(kind, size, parts, letters):
    """Each small term that isn't the first one of its class, behind that first one, in order of these terms."""
    terms = small_terms(kind[0], parts=parts, letters=letters)
    firsts = {}
    for together in classes(kind, size, parts=parts, letters=letters):
        for term in together[1:]:
            firsts[text_of(term)] = together[0]
    told = []
    for term in terms:
        first = firsts.get(text_of(term), None)
        if first is not None:
            told.append((first, term))
    return told


def conjectures(kind, size, *, parts=4, letters=2):
    """The equations of small terms that all models up to a size keep, without those that are needless."""
    need_kind(kind)
    need_size(size)
    lowering = Lowering(kind[1])
    told = []
    for pair in pairs_together(kind, size, parts, letters):
        equation = least_equation(kind[0], pair)
        if equation in told or is_one_low(lowering, pair) or is_one_low(lowering, equation):
            continue
        if len(told) == MOST_TOLD:
            raise TooMany("too many conjectures")
        told.append(equation)
        lowering.put_equation(equation)
    return told


def parting_among(signature, equation, models):
    """The first model of a list that breaks an equation, with the first worths, or None."""
    for model in models:
        places = unlike_places(signature, model, equation)
        if places:
            return (model, row_at_place(model[0], len(variables_of(equation)), places[0]))
    return None


def parting(kind, equation, size):
    """The first model of the least size up to the told one that breaks an equation, with worths, or None."""
    need_kind(kind)
    need_equation(kind[0], equation)
    need_size(size)
    for here in range(1, size + 1):
        told = parting_among(kind[0], equation, all_models(kind, here))
        if told is not None:
            return told
    return None


def models_up_to(kind, size):
    """All models of a kind of sizes up to the told one, in order."""
    models = []
    for here in range(1, size + 1):
        models.extend(all_models(kind, here))
    return models


def all_partings(kind, size, *, parts=4, letters=2):
    """For each two neighbouring classes the parting of the equation of their first terms."""
    firsts = [together[0] for together in classes(kind, size, parts=parts, letters=letters)]
    models = models_up_to(kind, size)
    return [parting_among(kind[0], pair, models) for pair in zip(firsts, firsts[1:])]


def first_broken_of(kind, size, equations):
    """What tells of the first equation that some model breaks, or None."""
    models = models_up_to(kind, size)
    for k, equation in enumerate(equations):
        told = parting_among(kind[0], equation, models)
        if told is not None:
            return ("breaks", k, told[0], told[1])
    return None


def first_needless(kind, equations):
    """What tells of the first equation whose sides have one low term by those ahead, or None."""
    lowering = Lowering(kind[1])
    for k, equation in enumerate(equations):
        if is_one_low(lowering, equation):
            return ("needless", k)
        lowering.put_equation(equation)
    return None


def first_lacking(kind, equations, pairs):
    """What tells of the first two terms that go together and aren't led to one by any beginning, or None."""
    told = [least_equation(kind[0], equation) for equation in equations]
    left = []
    for pair in pairs:
        least = least_equation(kind[0], pair)
        if least not in told:
            left.append((pair, least))
    lowering = Lowering(kind[1])
    for equation in list(equations) + [None]:
        left = [both for both in left if not is_one_low(lowering, both[0]) and not is_one_low(lowering, both[1])]
        if equation is not None:
            lowering.put_equation(equation)
    return ("lacking", left[0][0]) if left else None


def is_list_of_told(signature, thing):
    """Whether it is a list of equations, not of too many."""
    if not isinstance(thing, list) or len(thing) > MOST_TOLD:
        return False
    return all([equation_wrong(signature, equation) is None for equation in thing])


def conjectures_judged(kind, size, thing, *, parts=4, letters=2):
    """None of a list of equations that all models keep, none needless, none lacking; else the first not so."""
    need_kind(kind)
    need_size(size)
    pairs = pairs_together(kind, size, parts, letters)
    if not is_list_of_told(kind[0], thing):
        return ("list",)
    wrong = first_broken_of(kind, size, thing)
    if wrong is None:
        wrong = first_needless(kind, thing)
    return first_lacking(kind, thing, pairs) if wrong is None else wrong
