"""Kinds whose deeds are called by other names, and kinds joined; what roads, answers and models are worth there."""

from deedworlds.answers import answer_judged
from deedworlds.basics import is_below, power, rows_below
from deedworlds.errors import NoAnswer, NoFit, NoModel, NoNumber, NoRenaming, TooMany
from deedworlds.ground import Ground
from deedworlds.models import first_unkept, model_wrong
from deedworlds.roads import need_road
from deedworlds.tablework import table_of
from deedworlds.terms import (
    MOST_DEEDS, MOST_EQUATIONS, is_name, letters_for, need_equation, need_kind, need_signature, need_term,
)
from deedworlds.termwork import variables_of
from deedworlds.texts import least_equation, lettered_equation

MOST_WAYS = 2000


def renaming_wrong(signature, thing):
    """None of a renaming of the signature, else the first that is not so."""
    need_signature(signature)
    if not isinstance(thing, tuple) or len(thing) != len(signature):
        return ("renaming",)
    for k, name in enumerate(thing):
        if not is_name(name):
            return ("name", k)
    for k, name in enumerate(thing):
        if name in thing[:k]:
            return ("twice", k)
    return None


def need_renaming(signature, renaming):
    """Refuse what is no signature, then what is no renaming of it."""
    if renaming_wrong(signature, renaming) is not None:
        raise NoRenaming("no renaming")


def new_names(signature, renaming):
    """The new names by the old ones."""
    return {deed[0]: name for deed, name in zip(signature, renaming)}


def term_by_names(names, term):
    """A term with its deeds called by new names."""
    if term[0] == "var":
        return term
    terms = []
    for part in term[2]:
        terms.append(term_by_names(names, part))
    return ("deed", names[term[1]], tuple(terms))


def sides_by_names(names, sides):
    """Two terms with their deeds called by new names."""
    return (term_by_names(names, sides[0]), term_by_names(names, sides[1]))


def lines_by_names(names, lines):
    """The lines of a road with all deeds called by new names."""
    told = [(term_by_names(names, lines[0][0]), None)]
    for term, (number, turned, path, put) in lines[1:]:
        new_put = tuple([(letter, term_by_names(names, one)) for letter, one in put])
        told.append((term_by_names(names, term), (number, turned, path, new_put)))
    return told


def called(signature, renaming):
    """The signature with its deeds so called."""
    need_renaming(signature, renaming)
    return tuple([(name, deed[1]) for deed, name in zip(signature, renaming)])


def called_term(signature, renaming, term):
    """A term with its deeds so called."""
    need_renaming(signature, renaming)
    need_term(signature, term)
    return term_by_names(new_names(signature, renaming), term)


def called_equation(signature, renaming, equation):
    """An equation with its deeds so called."""
    need_renaming(signature, renaming)
    need_equation(signature, equation)
    return sides_by_names(new_names(signature, renaming), equation)


def called_kind(kind, renaming):
    """A kind with its deeds so called."""
    need_kind(kind)
    signature = called(kind[0], renaming)
    names = new_names(kind[0], renaming)
    return (signature, tuple([sides_by_names(names, equation) for equation in kind[1]]))


def called_road(kind, renaming, road):
    """A road by a kind with all deeds so called."""
    need_kind(kind)
    need_renaming(kind[0], renaming)
    need_road(kind, road)
    return lines_by_names(new_names(kind[0], renaming), road)


def joined_signature(one, other):
    """The deeds of the one signature, and behind them those of the other whose names it hasn't."""
    need_signature(one)
    need_signature(other)
    places = dict(one)
    for name, many in other:
        if places.get(name, many) != many:
            raise NoFit(name)
    told = one + tuple([deed for deed in other if deed[0] not in places])
    if len(told) > MOST_DEEDS:
        raise TooMany("too many deeds")
    return told


def joined_kind(one, other):
    """The kind of the joined signature with the equations of both, those that say the same once."""
    need_kind(one)
    need_kind(other)
    signature = joined_signature(one[0], other[0])
    equations = list(one[1])
    met = [least_equation(signature, equation) for equation in equations]
    for equation in other[1]:
        least = least_equation(signature, equation)
        if least not in met:
            met.append(least)
            equations.append(equation)
    if len(equations) > MOST_EQUATIONS:
        raise TooMany("too many equations")
    return (signature, tuple(equations))


def places_in_join(one, other):
    """For the equations of both kinds the places at which the joined kind has them first."""
    signature, equations = joined_kind(one, other)
    met = [least_equation(signature, equation) for equation in equations]
    told = []
    for kind in (one, other):
        told.append(tuple([met.index(least_equation(signature, equation)) for equation in kind[1]]))
    return tuple(told)


def need_which(which):
    """Refuse what is neither 0 nor 1."""
    if not is_below(which, 2):
        raise NoNumber("neither 0 nor 1")


def turned_to(equation, other):
    """How an equation is said by another one: if that is turned about, and its letters by those of the first."""
    lettered_one = lettered_equation(equation[0], equation[1])
    turned = lettered_equation(other[0], other[1]) != lettered_one
    sides = (other[1], other[0]) if turned else other
    back = {letter[1]: name for name, letter in letters_for(list(equation)).items()}
    return (turned, {name: back[letter[1]] for name, letter in letters_for(list(sides)).items()})


def line_moved(equations, joined_equations, places, line):
    """A line by the same step of the joined kind."""
    term, (number, turned, path, put) = line
    other = joined_equations[places[number]]
    about, letters = turned_to(equations[number], other)
    putting = dict(put)
    new_put = tuple([(name, putting[letters[name]]) for name in variables_of(other)])
    return (term, (places[number], turned != about, path, new_put))


def moved_lines(one, other, which, road):
    """A right road by one of two kinds as a road by the joined kind."""
    equations = joined_kind(one, other)[1]
    places = places_in_join(one, other)[which]
    kind = (one, other)[which]
    return road[:1] + [line_moved(kind[1], equations, places, line) for line in road[1:]]


def moved_road(one, other, which, road):
    """A road by one of two kinds as a road by the joined kind."""
    joined_kind(one, other)
    need_which(which)
    need_road((one, other)[which], road)
    return moved_lines(one, other, which, road)


def moved_model(signature, own, model):
    """A model of its own signature with its tables in the order of another one, None where that has more deeds."""
    if len(signature) > len(own):
        return None
    return (model[0], tuple([table_of(own, model[1], name) for name, places in signature]))


def moved_answer(one, other, which, equation, answer):
    """What a right answer for an equation by one of two kinds is worth in the joined kind, or None."""
    both = joined_kind(one, other)
    need_which(which)
    kind = (one, other)[which]
    wrong = answer_judged(kind, equation, answer)
    if wrong is not None:
        raise NoAnswer(wrong)
    if answer[0] == "road":
        return ("road", moved_lines(one, other, which, answer[1]))
    if answer[0] == "open":
        return None
    model = moved_model(both[0], kind[0], answer[1])
    if model is None or first_unkept(both, model) is not None:
        return None
    return ("model", model, answer[2])


def first_way(ground, cells, at):
    """Tell the cells from a place on in the first way in which nothing is broken; whether there is one."""
    if ground.broken:
        return False
    if at == len(cells):
        return True
    for number in range(ground.size):
        ground.make_known(cells[at], number)
        if first_way(ground, cells, at + 1):
            return True
        ground.take_back()
    return False


def widened(one, other, which, model):
    """A model of the joined kind in which the deeds of one of two kinds tell what they tell in a model, or None."""
    both = joined_kind(one, other)
    need_which(which)
    kind = (one, other)[which]
    if model_wrong(kind[0], model) is not None or first_unkept(kind, model) is not None:
        raise NoModel("no model that keeps the kind")
    size = model[0]
    names = [deed[0] for deed in kind[0]]
    further = [deed for deed in both[0] if deed[0] not in names]
    if power(size, sum([power(size, places) for name, places in further])) > MOST_WAYS:
        raise TooMany("too many ways")
    ground = Ground(both, size)
    for (name, places), table in zip(kind[0], model[1]):
        for args, number in zip(rows_below(size, places), table):
            ground.make_known(ground.cell_number(name, args), number)
    cells = []
    for deed in further:
        cells.extend(ground.cells_of_deed(deed))
    return (size, ground.known_tables()) if first_way(ground, cells, 0) else None
