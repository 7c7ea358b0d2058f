"""Roads: rows of terms, each of which comes from the one ahead by an equation; judged, and made of others."""

from deedworlds.basics import is_whole
from deedworlds.errors import NoLink, NoPutting, NoRoad, TooBig, TooMany
from deedworlds.terms import (
    MOST_PARTS, VARIABLES, is_path, is_putting, need_equation, need_kind, need_path, need_term, wrong_in_term,
)
from deedworlds.termwork import exchanged, exchanged_many, part_at, parts_many, variables_of, with_part

MOST_LINES = 600


def is_row_from_nought(thing):
    """Whether it is a tuple of whole numbers from 0 on."""
    return isinstance(thing, tuple) and all([is_whole(number) and number >= 0 for number in thing])


def has_put_form(places, thing):
    """Whether it is a tuple of tuples of a variable and a term."""
    if not isinstance(thing, tuple):
        return False
    for one in thing:
        if not isinstance(one, tuple) or len(one) != 2 or one[0] not in VARIABLES:
            return False
        if wrong_in_term(places, one[1]) is not None:
            return False
    return True


def has_reason_form(places, thing):
    """Whether it has the form of a reason of another line than the first one."""
    if not isinstance(thing, tuple) or len(thing) != 4:
        return False
    number, turned, path, put = thing
    return (is_whole(number) and number >= 0 and isinstance(turned, bool) and is_row_from_nought(path)
            and has_put_form(places, put))


def has_line_form(places, at, thing):
    """Whether it has the form of a line at this place."""
    if not isinstance(thing, tuple) or len(thing) != 2 or wrong_in_term(places, thing[0]) is not None:
        return False
    return thing[1] is None if at == 0 else has_reason_form(places, thing[1])


def has_road_form(places, thing):
    """Whether it is a list of one or more lines by their form, not of too many."""
    if not isinstance(thing, list) or not 1 <= len(thing) <= MOST_LINES:
        return False
    for at, line in enumerate(thing):
        if not has_line_form(places, at, line):
            return False
    return True


def with_letters(pairs):
    """Pairs of terms, each with the variables of both behind."""
    return [(left, right, variables_of((left, right))) for left, right in pairs]


def is_side_put(side, putting, term):
    """Whether a term is what a side becomes by a putting of all its variables."""
    todo = [(side, term)]
    while todo:
        one, other = todo.pop()
        if one[0] == "var":
            if putting[one[1]] != other:
                return False
        elif one[:2] != other[:2]:
            return False
        else:
            todo.extend(list(zip(one[2], other[2])))
    return True


def differs_beside(path, ahead, term):
    """Whether a term is unlike the one ahead at some place beside the path, or lacks the path."""
    for number in path:
        if ahead[:2] != term[:2]:
            return True
        for k, below in enumerate(ahead[2]):
            if k != number and below != term[2][k]:
                return True
        ahead, term = ahead[2][number], term[2][number]
    return False


def comes_from(steps, ahead, line):
    """Whether a line comes from the term ahead, by the steps: pairs of terms with their variables."""
    term, (number, turned, path, put) = line
    if number >= len(steps) or not is_path(ahead, path):
        return False
    left, right, letters = steps[number]
    if tuple([one[0] for one in put]) != letters or differs_beside(path, ahead, term):
        return False
    putting = dict(put)
    one, other = (right, left) if turned else (left, right)
    return is_side_put(one, putting, part_at(ahead, path)) and is_side_put(other, putting, part_at(term, path))


def first_odd_line(steps, lines):
    """The place of the first line that doesn't come from the one ahead, or None."""
    for at in range(1, len(lines)):
        if not comes_from(steps, lines[at - 1][0], lines[at]):
            return at
    return None


def judged_by_steps(places, steps, left, right, thing):
    """What road_judged tells, of any steps and of any two terms as its ends."""
    if not has_road_form(places, thing):
        return ("road",)
    if thing[0][0] != left:
        return ("begin",)
    odd = first_odd_line(steps, thing)
    if odd is not None:
        return ("line", odd)
    return None if thing[-1][0] == right else ("end",)


def road_wrong(kind, thing):
    """None of a road by the kind, else the first that is not so."""
    need_kind(kind)
    if not has_road_form(dict(kind[0]), thing):
        return ("road",)
    odd = first_odd_line(with_letters(kind[1]), thing)
    return None if odd is None else ("line", odd)


def road_judged(kind, equation, thing):
    """None of a road from the left side of an equation to its right one, else the first that is not so."""
    need_kind(kind)
    need_equation(kind[0], equation)
    return judged_by_steps(dict(kind[0]), with_letters(kind[1]), equation[0], equation[1], thing)


def need_road(kind, road):
    """Refuse what is no kind, then what is no road by it."""
    if road_wrong(kind, road) is not None:
        raise NoRoad("no road by the kind")


def road_turned(kind, road):
    """The road from the last line back to the first, each step turned about."""
    need_road(kind, road)
    lines = [(road[-1][0], None)]
    for at in range(len(road) - 1, 0, -1):
        number, turned, path, put = road[at][1]
        lines.append((road[at - 1][0], (number, not turned, path, put)))
    return lines


def road_joined(kind, one, other):
    """The road along the one and then along the other, which begins where the first one ends."""
    need_road(kind, one)
    need_road(kind, other)
    if one[-1][0] != other[0][0]:
        raise NoLink("the second road begins elsewhere")
    if len(one) + len(other) - 1 > MOST_LINES:
        raise TooMany("too many lines")
    return one + other[1:]


def placed_reason(reason, path):
    """The reason of a line, at its path behind another one."""
    if reason is None:
        return None
    number, turned, behind, put = reason
    return (number, turned, path + behind, put)


def road_placed(kind, road, term, path):
    """The road each of whose terms is a term with the road's own at a path."""
    need_road(kind, road)
    need_term(kind[0], term)
    need_path(term, path)
    around = parts_many(term) - parts_many(part_at(term, path))
    if max([parts_many(line[0]) for line in road]) + around > MOST_PARTS:
        raise TooBig("too many parts")
    return [(with_part(term, path, inner), placed_reason(reason, path)) for inner, reason in road]


def put_reason(reason, putting):
    """The reason of a line, its terms with a putting put in."""
    if reason is None:
        return None
    number, turned, path, put = reason
    return (number, turned, path, tuple([(name, exchanged(term, putting)) for name, term in put]))


def road_put(kind, road, putting):
    """The road all of whose terms have a putting put in."""
    need_road(kind, road)
    if not is_putting(kind[0], putting):
        raise NoPutting("no putting")
    # what is put stands in a term of its line or of the one ahead, so that it is never the greater one
    if max([exchanged_many(line[0], putting) for line in road]) > MOST_PARTS:
        raise TooBig("too many parts")
    return [(exchanged(term, putting), put_reason(reason, putting)) for term, reason in road]


def road_uses(kind, road):
    """The numbers of the equations by which a road goes, rising, each once."""
    need_road(kind, road)
    return sorted(set([reason[0] for term, reason in road[1:]]))
