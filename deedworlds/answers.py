"""Answers to a claim: a road, a model that breaks it, or all that was searched; asked for, and judged."""

from deedworlds.basics import is_row
from deedworlds.errors import NoAnswer, TooMany
from deedworlds.following import is_parts, need_parts, road_or_shut, shut_wrong
from deedworlds.models import first_unkept, model_wrong, need_size, unlike_under
from deedworlds.plain import search
from deedworlds.roads import road_judged
from deedworlds.search import search_judged
from deedworlds.searchwork import model_leaves
from deedworlds.terms import MOST_SIZE, need_equation, need_kind
from deedworlds.termwork import variables_of

STATES = {"road": "holds", "model": "refuted", "open": "open"}


def first_leaf_unkept(kind, size, paper):
    """The first model at the leaves of a right search paper that doesn't keep a kind, or None."""
    for tables in model_leaves(paper):
        if first_unkept(kind, (size, tables)) is not None:
            return (size, tables)
    return None


def road_or_shut_or_none(kind, equation, parts):
    """A tuple of a road and None, of None and a shut list, or of None twice, where too many terms are come to."""
    try:
        return road_or_shut(kind, equation, parts)
    except TooMany:
        return (None, None)


def answered(kind, equation, size, *, parts=9):
    """A road of an equation, else a model of the least size that breaks it, else what was searched."""
    need_kind(kind)
    need_equation(kind[0], equation)
    need_size(size)
    need_parts(parts)
    road, shut = road_or_shut_or_none(kind, equation, parts)
    if road is not None:
        return ("road", road)
    alone = (kind[0], (equation,))
    searches = []
    for here in range(1, size + 1):
        paper = search(kind, here)
        model = first_leaf_unkept(alone, here, paper)
        if model is not None:
            return ("model", model, first_unkept(alone, model)[1])
        searches.append(paper)
    return ("open", searches, parts, shut)


def has_answer_form(thing):
    """Whether it has the form of an answer."""
    if not isinstance(thing, tuple) or not thing:
        return False
    if thing[0] == "road":
        return len(thing) == 2
    if thing[0] == "model":
        return len(thing) == 3
    return (thing[0] == "open" and len(thing) == 4 and isinstance(thing[1], list)
            and 1 <= len(thing[1]) <= MOST_SIZE and is_parts(thing[2]))


def breaking_wrong(kind, equation, model, worths):
    """What isn't right of a model that is told to break an equation by worths, or None."""
    if model_wrong(kind[0], model) is not None or first_unkept(kind, model) is not None:
        return ("model",)
    if not is_row(worths, len(variables_of(equation)), model[0]):
        return ("worths",)
    return None if unlike_under(kind[0], model, equation, worths) else ("alike",)


def searches_wrong(kind, wanted, searches):
    """What isn't right of search papers of a kind, for all sizes from 1 on, whose leaves keep what is wanted."""
    for at, paper in enumerate(searches):
        wrong = search_judged(kind, at + 1, paper)
        if wrong is not None:
            return ("search", at + 1, wrong)
    for at, paper in enumerate(searches):
        if first_leaf_unkept(wanted, at + 1, paper) is not None:
            return ("leaf", at + 1)
    return None


def open_wrong(kind, equation, searches, parts, shut):
    """What isn't right of an open answer, or None."""
    wrong = searches_wrong(kind, (kind[0], (equation,)), searches)
    if wrong is not None or shut is None:
        return wrong
    return shut_wrong(kind, equation, shut, parts)


def answer_judged(kind, equation, thing):
    """None of a right answer to an equation, else the first that is not so."""
    need_kind(kind)
    need_equation(kind[0], equation)
    if not has_answer_form(thing):
        return ("answer",)
    if thing[0] == "road":
        return road_judged(kind, equation, thing[1])
    if thing[0] == "model":
        return breaking_wrong(kind, equation, thing[1], thing[2])
    return open_wrong(kind, equation, thing[1], thing[2], thing[3])


def state_of(kind, equation, answer):
    """The state that a right answer tells: holds, refuted or open."""
    wrong = answer_judged(kind, equation, answer)
    if wrong is not None:
        raise NoAnswer(wrong)
    return STATES[answer[0]]
