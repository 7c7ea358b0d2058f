"""The forms of terms by rules, and roads by lemmas along uses."""

from deedworlds.errors import NoUse
from deedworlds.forming import Forming
from deedworlds.lemmas import pairs_of
from deedworlds.terms import need_term
from deedworlds.termwork import variables_of
from deedworlds.using import small_behind_use, use_putting

MOST_USES = 500


def form_of(kind, weighing, lemmas, rules, term):
    """The form of a term by rules, and the list of uses done."""
    pairs = pairs_of(kind, weighing, lemmas, rules)
    need_term(kind[0], term)
    return Forming(pairs).form(term, MOST_USES)


def lines_by_uses(pairs, numbers, term, uses):
    """The lines along uses from a term, each by the number that stands for its pair; refused at the first odd use."""
    lines = [(term, None)]
    for at, use in enumerate(uses):
        putting = use_putting(pairs, term, use)
        behind = small_behind_use(pairs, term, use)
        if behind is None:
            raise NoUse(at)
        put = tuple([(name, putting[name]) for name in variables_of(pairs[use[0]])])
        lines.append((behind, (numbers[use[0]], False, use[1], put)))
        term = behind
    return lines


def uses_road(kind, weighing, lemmas, rules, term, uses):
    """The lines of a road by lemmas along uses from a term."""
    pairs = pairs_of(kind, weighing, lemmas, rules)
    need_term(kind[0], term)
    return lines_by_uses(pairs, [len(kind[1]) + place for place in rules], term, uses)
