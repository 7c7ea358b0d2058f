"""Weighings of a signature, what terms weigh by them, and which of two terms is heavier."""

from deedworlds.basics import is_whole
from deedworlds.errors import NoWeighing
from deedworlds.ordering import is_order
from deedworlds.terms import need_signature, need_term

MOST_WEIGHT = 1000


def are_weights(thing, many):
    """Whether it is a tuple of so many weights."""
    if not isinstance(thing, tuple) or len(thing) != many:
        return False
    return all([is_whole(weight) and 1 <= weight <= MOST_WEIGHT for weight in thing])


def weighing_wrong(signature, thing):
    """None of a weighing of the signature, else the first that is not so."""
    need_signature(signature)
    if not isinstance(thing, tuple) or len(thing) != 2:
        return ("weighing",)
    if not are_weights(thing[0], len(signature)):
        return ("weights",)
    return None if is_order(thing[1], len(signature)) else ("rank",)


def need_weighing(signature, weighing):
    """Refuse what is no signature, then what is no weighing of it."""
    if weighing_wrong(signature, weighing) is not None:
        raise NoWeighing("no weighing")


def heads_in(term):
    """How often each deed and each variable stands in a term."""
    counts = {}
    todo = [term]
    while todo:
        part = todo.pop()
        counts[part[:2]] = counts.get(part[:2], 0) + 1
        if part[0] == "deed":
            todo.extend(part[2])
    return counts


def weight_of_heads(signature, weighing, heads):
    """What a term weighs in which deeds and variables stand so often."""
    weights = {("deed", name): weight for (name, places), weight in zip(signature, weighing[0])}
    return sum([many * weights.get(head, 1) for head, many in heads.items()])


def weight_of(signature, weighing, term):
    """What a term weighs."""
    need_weighing(signature, weighing)
    need_term(signature, term)
    return weight_of_heads(signature, weighing, heads_in(term))


def has_as_often(heads, others):
    """Whether each variable stands in the one no less often than in the other."""
    return all([head[0] == "deed" or heads.get(head, 0) >= others[head] for head in others])


def height_in_rank(signature, weighing, name):
    """How high a deed stands in the rank."""
    names = [deed[0] for deed in signature]
    return weighing[1].index(names.index(name))


def is_heavier(signature, weighing, one, other):
    """Whether the one term is heavier than the other, of what is known to be right."""
    while one != other:
        heads, others = heads_in(one), heads_in(other)
        if not has_as_often(heads, others):
            return False
        weight = weight_of_heads(signature, weighing, heads)
        less = weight_of_heads(signature, weighing, others)
        if weight != less or "var" in (one[0], other[0]):
            return weight > less
        if one[1] != other[1]:
            return height_in_rank(signature, weighing, one[1]) > height_in_rank(signature, weighing, other[1])
        one, other = [pair for pair in zip(one[2], other[2]) if pair[0] != pair[1]][0]
    return False


def compared(signature, weighing, one, other):
    """Whether the first of two terms is heavier or lighter than the second, the same, or apart from it."""
    need_weighing(signature, weighing)
    need_term(signature, one)
    need_term(signature, other)
    if one == other:
        return "same"
    if is_heavier(signature, weighing, one, other):
        return "heavier"
    return "lighter" if is_heavier(signature, weighing, other, one) else "apart"
