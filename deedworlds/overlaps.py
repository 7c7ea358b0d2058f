"""Terms made one, pairs, where two pairs overlap, and uses of pairs in terms."""

from deedworlds.errors import NoPair, NoPlace, NoPutting, TooBig
from deedworlds.overlapping import Overlapping
from deedworlds.stock import Stock
from deedworlds.terms import MOST_PARTS, is_path, need_signature, need_term, wrong_in_term
from deedworlds.termwork import fitting, part_at, paths_of, variables_of
from deedworlds.union import Union
from deedworlds.using import behind_use, ends_or_wrong, is_list_of_uses

MOST_PAIR_LETTERS = 3


def unified(signature, one, other):
    """The widest putting that makes two terms without a common variable one term, or None."""
    need_term(signature, one)
    need_term(signature, other)
    letters = variables_of([one, other])
    if len(letters) < len(variables_of([one])) + len(variables_of([other])):
        raise NoPutting("a common variable")
    stock = Stock()
    first, second = stock.number_of_term(one), stock.number_of_term(other)
    union = Union(stock)
    if not union.can_be_one(first, second):
        return None
    many = union.parts_made(first)
    if many == 0:
        return None
    if many > MOST_PARTS:
        raise TooBig("the one term has too many parts")
    return {letter: stock.terms[union.number_made(stock.number_for(letter, ()))] for letter in letters}


def is_pair_of_terms(signature, thing):
    """Whether it is a tuple of two terms."""
    if not isinstance(thing, tuple) or len(thing) != 2:
        return False
    places = dict(signature)
    return all([wrong_in_term(places, term) is None for term in thing])


def pair_wrong(signature, thing):
    """None of a pair, else the first that is not so."""
    need_signature(signature)
    if not is_pair_of_terms(signature, thing):
        return ("pair",)
    left, right = thing
    letters = variables_of([left])
    if left[0] == "var" or len(letters) > MOST_PAIR_LETTERS:
        return ("letters",)
    return None if all([name in letters for name in variables_of([right])]) else ("free",)


def need_pairs(signature, pairs):
    """Refuse what is no signature, then a thing in the list that is no pair."""
    need_signature(signature)
    for pair in pairs:
        if pair_wrong(signature, pair) is not None:
            raise NoPair("no pair")


def overlap_of(signature, first, second, path):
    """The overlap of two pairs at a path of the first one's left term, or None."""
    need_pairs(signature, [first, second])
    if not is_path(first[0], path) or part_at(first[0], path)[0] == "var":
        raise NoPlace("no path at which a deed stands")
    overlapping = Overlapping([first, second])
    return overlapping.laid_over(0, 1, path, overlapping.part_number(0, path))


def overlaps(signature, pairs):
    """All overlaps of a list of pairs, in order."""
    need_pairs(signature, pairs)
    overlapping = Overlapping(pairs)
    told = []
    for i in range(len(pairs)):
        for j in range(len(pairs)):
            told.extend(overlapping.all_of_two(i, j))
    return told


def used(signature, pairs, term, use):
    """The term to which a use leads, None where it is none."""
    need_pairs(signature, pairs)
    need_term(signature, term)
    return behind_use(pairs, term, use)


def uses_at(signature, pairs, term):
    """All uses of a list of pairs in a term, in order of paths, then of places in the list."""
    need_pairs(signature, pairs)
    need_term(signature, term)
    told = []
    for path in paths_of(term):
        part = part_at(term, path)
        told.extend([(k, path) for k, pair in enumerate(pairs) if fitting(pair[0], part) is not None])
    return told


def wrong_in_join(pairs, one, other, thing):
    """What join_wrong tells, of pairs and terms that are known to be right."""
    if not isinstance(thing, tuple) or len(thing) != 2:
        return ("join",)
    if not is_list_of_uses(thing[0]) or not is_list_of_uses(thing[1]):
        return ("join",)
    ends, wrong = ends_or_wrong(pairs, (one, other), thing)
    if ends is None:
        return wrong
    return None if ends[0] == ends[1] else ("apart",)


def join_wrong(signature, pairs, one, other, thing):
    """None of a join of two terms, else the first that is not so."""
    need_pairs(signature, pairs)
    need_term(signature, one)
    need_term(signature, other)
    return wrong_in_join(pairs, one, other, thing)
