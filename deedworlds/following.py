"""What follows from a kind's equations by steps: roads with the fewest steps, and lists that are shut."""

from deedworlds.basics import is_whole
from deedworlds.errors import NoNumber, TooMany
from deedworlds.steps import Steps
from deedworlds.terms import MOST_PARTS, need_equation, need_kind, wrong_in_term
from deedworlds.termwork import parts_many

MOST_COME = 500


def is_parts(thing):
    """Whether it is a whole number of parts that a term may have."""
    return is_whole(thing) and 1 <= thing <= MOST_PARTS


def need_parts(parts):
    """Refuse what is no whole number of parts that a term may have."""
    if not is_parts(parts):
        raise NoNumber("no number of parts")


def step_to(steps, numbers, goal):
    """The first of some terms from which a step leads to the goal, with that step; None where none does."""
    for number in numbers:
        step = steps.step_between(number, goal)
        if step is not None:
            return (number, step)
    return None


def come_from(steps, numbers, come):
    """The terms that are come to from these in a step and weren't ahead; refused where too many are."""
    fresh = []
    for number in numbers:
        for path, part, k in steps.openings(number):
            for result, put in steps.results_of(part, k):
                other = steps.stock.number_with(number, path, result)
                if other not in come:
                    come[other] = (number, (path, k, put))
                    fresh.append(other)
                    if len(come) > MOST_COME:
                        raise TooMany("too many terms are come to")
    return fresh


def lines_to(steps, come, number):
    """The lines of the road to a term that is come to."""
    lines = []
    while come[number] is not None:
        ahead, (path, k, put) = come[number]
        lines.append((steps.stock.terms[number], steps.reason_of(path, k, put)))
        number = ahead
    lines.append((steps.stock.terms[number], None))
    return lines[::-1]


def road_or_shut(kind, equation, parts):
    """A tuple of a road of an equation and None, or of None and a shut list; refused where too many are come to."""
    steps = Steps(kind, equation, parts)
    left = steps.stock.number_of_term(equation[0])
    right = steps.stock.number_of_term(equation[1])
    come = {left: None}
    fresh = [left]
    while right not in come and fresh:
        # whether the goal is a step away is looked at first: else too many others may be met ahead of it
        found = step_to(steps, fresh, right)
        if found is None:
            fresh = come_from(steps, fresh, come)
        else:
            come[right] = found
    if right in come:
        return (lines_to(steps, come, right), None)
    return (None, [steps.stock.terms[number] for number in come])


def need_asked(kind, equation, parts):
    """Refuse what is no kind, no equation of it, no number of parts."""
    need_kind(kind)
    need_equation(kind[0], equation)
    need_parts(parts)


def road_for(kind, equation, *, parts=9):
    """A road of an equation with the fewest steps, None where none is come to."""
    need_asked(kind, equation, parts)
    return road_or_shut(kind, equation, parts)[0]


def shut_list(kind, equation, *, parts=9):
    """A list of terms that shows that no such road is there, None where one is."""
    need_asked(kind, equation, parts)
    return road_or_shut(kind, equation, parts)[1]


def numbers_of_terms(kind, stock, thing):
    """The numbers of the terms of a list, None where it is no list of terms, none twice."""
    if not isinstance(thing, list):
        return None
    places = dict(kind[0])
    inside = {}
    for term in thing:
        if wrong_in_term(places, term) is not None:
            return None
        number = stock.number_of_term(term)
        if number in inside:
            return None
        inside[number] = True
    return inside


def shut_wrong(kind, equation, thing, parts):
    """What shut_judged tells, of a kind, an equation and parts that are known to be right."""
    steps = Steps(kind, equation, parts)
    inside = numbers_of_terms(kind, steps.stock, thing)
    if inside is None:
        return ("list",)
    if parts_many(equation[0]) <= parts and steps.stock.number_of_term(equation[0]) not in inside:
        return ("begin",)
    if steps.stock.number_of_term(equation[1]) in inside:
        return ("end",)
    for i, number in enumerate(list(inside)):
        if steps.leads_outside(number, inside):
            return ("shut", i)
    return None


def shut_judged(kind, equation, thing, *, parts=9):
    """None of a shut list, else the first that is not so."""
    need_asked(kind, equation, parts)
    return shut_wrong(kind, equation, thing, parts)
