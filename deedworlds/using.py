"""Uses of pairs that are known to be right: what they lead to, one by one and in rows."""

from deedworlds.basics import is_below, is_whole
from deedworlds.errors import TooBig
from deedworlds.roads import is_row_from_nought
from deedworlds.terms import MOST_PARTS, is_path
from deedworlds.termwork import exchanged, exchanged_many, fitting, part_at, parts_many, with_part


def use_putting(pairs, term, use):
    """The putting by which a use goes, None where it is no use of the term (anything)."""
    if not isinstance(use, tuple) or len(use) != 2 or not is_below(use[0], len(pairs)):
        return None
    if not is_path(term, use[1]):
        return None
    return fitting(pairs[use[0]][0], part_at(term, use[1]))


def behind_use(pairs, term, use):
    """The term to which a use leads, None where it is none; refused where that is too big."""
    putting = use_putting(pairs, term, use)
    if putting is None:
        return None
    k, path = use
    right = pairs[k][1]
    if parts_many(term) - parts_many(part_at(term, path)) + exchanged_many(right, putting) > MOST_PARTS:
        raise TooBig("a use leads to a term with too many parts")
    return with_part(term, path, exchanged(right, putting))


def small_behind_use(pairs, term, use):
    """The term to which a use leads, None where it is none or leads to a term that is too big."""
    try:
        return behind_use(pairs, term, use)
    except TooBig:
        return None


def is_list_of_uses(thing):
    """Whether it is a list of uses by their form."""
    if not isinstance(thing, list):
        return False
    for use in thing:
        if not isinstance(use, tuple) or len(use) != 2 or not is_whole(use[0]) or use[0] < 0:
            return False
        if not is_row_from_nought(use[1]):
            return False
    return True


def end_of_uses(pairs, term, uses):
    """A tuple of the term to which uses lead and None, or of None and the place of the first that is none."""
    for n, use in enumerate(uses):
        term = small_behind_use(pairs, term, use)
        if term is None:
            return (None, n)
    return (term, None)


def ends_or_wrong(pairs, terms, rows):
    """The two terms to which two rows of uses lead, or ("use", side, n) of the first that is none."""
    ends = []
    for side, (term, uses) in enumerate(zip(terms, rows)):
        end, n = end_of_uses(pairs, term, uses)
        if end is None:
            return (None, ("use", side, n))
        ends.append(end)
    return (ends, None)
