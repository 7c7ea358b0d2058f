"""Which of a kind's equations lean on the others, and which lots of them are enough."""

from deedworlds.answers import answered, first_leaf_unkept, searches_wrong
from deedworlds.basics import is_below, rising_lists
from deedworlds.errors import NoLot, NoNumber
from deedworlds.following import need_parts
from deedworlds.models import first_unkept, model_wrong, need_size, unlike_places
from deedworlds.plain import search
from deedworlds.searchwork import model_leaves
from deedworlds.terms import need_kind


def answered_without(kind, number, size, parts):
    """What is answered of a kind's equation by the kind without it."""
    signature, equations = kind
    others = (signature, equations[:number] + equations[number + 1:])
    return answered(others, equations[number], size, parts=parts)


def leaned(kind, number, size, *, parts=9):
    """What is answered of an equation of a kind, by its number, and the kind without it."""
    need_kind(kind)
    if not is_below(number, len(kind[1])):
        raise NoNumber("no equation has this number")
    return answered_without(kind, number, size, parts)


def all_leaned(kind, size, *, parts=9):
    """What leaned tells of all equations of a kind."""
    need_kind(kind)
    need_size(size)
    need_parts(parts)
    return [answered_without(kind, number, size, parts) for number in range(len(kind[1]))]


def is_lot(kind, thing):
    """Whether it is a list of numbers of a kind's equations, rising."""
    if not isinstance(thing, list):
        return False
    least = 0
    for number in thing:
        if not is_below(number, len(kind[1])) or number < least:
            return False
        least = number + 1
    return True


def need_lot_and_size(kind, lot, size):
    """Refuse what is no kind, no lot of it, no size."""
    need_kind(kind)
    if not is_lot(kind, lot):
        raise NoLot("no lot of the kind's equations")
    need_size(size)


def kind_of_lot(kind, lot):
    """The kind that has just the equations of a lot, in its order."""
    return (kind[0], tuple([kind[1][number] for number in lot]))


def searched_lot(kind, lot, size):
    """A tuple of the search papers of a lot and None, or of the papers so far and a model that breaks the kind."""
    by_lot = kind_of_lot(kind, lot)
    searches = []
    for here in range(1, size + 1):
        paper = search(by_lot, here)
        searches.append(paper)
        model = first_leaf_unkept(kind, here, paper)
        if model is not None:
            return (searches, model)
    return (searches, None)


def enough(kind, lot, size):
    """None of a lot that is enough up to a size, else a model that keeps it and the first equation that it breaks."""
    need_lot_and_size(kind, lot, size)
    model = searched_lot(kind, lot, size)[1]
    return None if model is None else (model, first_unkept(kind, model)[0])


def broken_lists(kind, size):
    """The lists of truths whether a model of a size up to this one keeps each equation, but those of all True."""
    met = {}
    for here in range(1, size + 1):
        for tables in model_leaves(search((kind[0], ()), here)):
            kept = tuple([not unlike_places(kind[0], (here, tables), equation) for equation in kind[1]])
            if not all(kept):
                met[kept] = True
    return list(met)


def lots_in_order(many):
    """All lots of so many numbers, shorter ones first, then by the lesser numbers."""
    return sorted(rising_lists(many), key=lambda lot: (len(lot), lot))


def has_all(lot, other):
    """Whether all numbers of another lot are in this one."""
    return all([number in lot for number in other])


def least_lots(kind, size):
    """All least lots up to a size, shorter ones first, then by the lesser numbers."""
    need_kind(kind)
    need_size(size)
    broken = broken_lists(kind, size)
    told = []
    for lot in lots_in_order(len(kind[1])):
        if any([has_all(lot, other) for other in told]):
            continue
        if not any([all([kept[number] for number in lot]) for kept in broken]):
            told.append(lot)
    return told


def lot_paper(kind, lot, size):
    """A paper that shows that a lot is least up to a size, None where it isn't."""
    need_lot_and_size(kind, lot, size)
    searches, model = searched_lot(kind, lot, size)
    if model is not None:
        return None
    breakers = []
    for number in lot:
        breaker = searched_lot(kind, [other for other in lot if other != number], size)[1]
        if breaker is None:
            return None
        breakers.append(breaker)
    return (searches, breakers)


def has_lot_paper_form(lot, size, thing):
    """Whether it is a tuple of two lists, of as many things as sizes and as numbers of the lot."""
    if not isinstance(thing, tuple) or len(thing) != 2:
        return False
    searches, breakers = thing
    return (isinstance(searches, list) and len(searches) == size
            and isinstance(breakers, list) and len(breakers) == len(lot))


def is_breaker(kind, others, size, thing):
    """Whether it is a model of a size up to this one that keeps the other equations, but not all of the kind's."""
    if model_wrong(kind[0], thing) is not None or thing[0] > size:
        return False
    return first_unkept(others, thing) is None and first_unkept(kind, thing) is not None


def lot_judged(kind, lot, size, thing):
    """None of a paper that shows that a lot is least up to a size, else the first that is not so."""
    need_lot_and_size(kind, lot, size)
    if not has_lot_paper_form(lot, size, thing):
        return ("paper",)
    searches, breakers = thing
    wrong = searches_wrong(kind_of_lot(kind, lot), kind, searches)
    if wrong is not None:
        return wrong
    for i, breaker in enumerate(breakers):
        others = kind_of_lot(kind, lot[:i] + lot[i + 1:])
        if not is_breaker(kind, others, size, breaker):
            return ("breaker", i)
    return None
