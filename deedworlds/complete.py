"""Complete papers: rules by which each term has one form, and what they decide."""

from deedworlds.errors import NoPaper, TooBig
from deedworlds.forming import Forming
from deedworlds.forms import MOST_USES, lines_by_uses
from deedworlds.lemmas import lemmas_wrong, wrong_in_rules
from deedworlds.overlapping import Overlapping
from deedworlds.overlaps import wrong_in_join
from deedworlds.spelling import spelt_lines
from deedworlds.terms import need_equation, need_kind
from deedworlds.using import ends_or_wrong, is_list_of_uses
from deedworlds.weights import weighing_wrong


def rule_pairs(paper):
    """The sides of the rules of a complete paper, in order."""
    return [paper[1][place][:2] for place in paper[2]]


def rules_part_wrong(kind, paper):
    """What isn't right of a paper's weighing, lemmas and rules, or None."""
    wrong = weighing_wrong(kind[0], paper[0])
    if wrong is not None:
        return ("weighing", wrong)
    wrong = lemmas_wrong(kind, paper[1])
    if wrong is not None:
        return ("lemmas", wrong)
    wrong = wrong_in_rules(kind[0], paper[0], paper[1], paper[2])
    return None if wrong is None else ("rules", wrong)


def joins_wrong(pairs, wanted, thing, words):
    """What isn't right of a list of joins of these sides, or None; words of the list and of one in it."""
    if not isinstance(thing, list) or len(thing) != len(wanted):
        return (words[0],)
    for k, (one, other) in enumerate(wanted):
        wrong = wrong_in_join(pairs, one, other, thing[k])
        if wrong is not None:
            return (words[1], k, wrong)
    return None


def overlap_sides(pairs, most):
    """The two sides of each overlap of pairs, None where one is too big, or where there are more than the most."""
    overlapping = Overlapping(pairs)
    told = []
    try:
        for i in range(len(pairs)):
            for j in range(len(pairs)):
                told.extend([overlap[4:] for overlap in overlapping.all_of_two(i, j)])
                if len(told) > most:
                    return None
    except TooBig:
        return None
    return told


def complete_wrong(kind, thing):
    """None of a complete paper of the kind, else the first that is not so."""
    need_kind(kind)
    if not isinstance(thing, tuple) or len(thing) != 5:
        return ("paper",)
    wrong = rules_part_wrong(kind, thing)
    if wrong is not None:
        return wrong
    pairs = rule_pairs(thing)
    wrong = joins_wrong(pairs, kind[1], thing[3], ("axioms", "axiom"))
    if wrong is not None:
        return wrong
    sides = overlap_sides(pairs, len(thing[4])) if isinstance(thing[4], list) else None
    if sides is None:
        return ("overlaps",)
    return joins_wrong(pairs, sides, thing[4], ("overlaps", "overlap"))


def need_paper(kind, paper):
    """Refuse what is no kind, then what is no complete paper of it."""
    wrong = complete_wrong(kind, paper)
    if wrong is not None:
        raise NoPaper(wrong)


def decided_by(paper, equation):
    """What decided tells, of what is known to be right."""
    forming = Forming(rule_pairs(paper))
    end, uses = forming.form(equation[0], MOST_USES)
    other_end, other_uses = forming.form(equation[1], MOST_USES)
    return ("holds", (uses, other_uses)) if end == other_end else ("parted", uses, other_uses)


def decided(kind, paper, equation):
    """A join of an equation's sides, or the rows of uses that lead them to unlike ends."""
    need_paper(kind, paper)
    need_equation(kind[0], equation)
    return decided_by(paper, equation)


def has_decided_form(thing):
    """Whether it has the form of what decided tells."""
    if not isinstance(thing, tuple) or not thing:
        return False
    if thing[0] == "holds":
        return len(thing) == 2
    return (thing[0] == "parted" and len(thing) == 3 and is_list_of_uses(thing[1])
            and is_list_of_uses(thing[2]))


def parted_wrong(pairs, equation, rows):
    """What isn't right of two rows of uses that are told to lead to unlike ends without a use, or None."""
    ends, wrong = ends_or_wrong(pairs, equation, rows)
    if ends is None:
        return wrong
    forming = Forming(pairs)
    for side, end in enumerate(ends):
        if forming.has_use(end):
            return ("end", side)
    return ("same",) if ends[0] == ends[1] else None


def wrong_in_decided(paper, equation, thing):
    """What decided_wrong tells, of a paper and an equation that are known to be right."""
    if not has_decided_form(thing):
        return ("answer",)
    pairs = rule_pairs(paper)
    if thing[0] == "parted":
        return parted_wrong(pairs, equation, thing[1:])
    wrong = wrong_in_join(pairs, equation[0], equation[1], thing[1])
    return None if wrong is None else ("join", wrong)


def decided_wrong(kind, paper, equation, thing):
    """None of what decided may tell of the equation, else the first that is not so."""
    need_paper(kind, paper)
    need_equation(kind[0], equation)
    return wrong_in_decided(paper, equation, thing)


def lines_along_join(kind, paper, equation, join):
    """The lines by lemmas from the left side of an equation to its right one, along a join."""
    pairs = rule_pairs(paper)
    numbers = [len(kind[1]) + place for place in paper[2]]
    lines = lines_by_uses(pairs, numbers, equation[0], join[0])
    others = lines_by_uses(pairs, numbers, equation[1], join[1])
    for at in range(len(others) - 1, 0, -1):
        number, turned, path, put = others[at][1]
        lines.append((others[at - 1][0], (number, True, path, put)))
    return lines


def road_by(kind, paper, equation):
    """A road of an equation by the kind's equations alone, None where its sides are parted."""
    told = decided(kind, paper, equation)
    if told[0] == "parted":
        return None
    lemma = (equation[0], equation[1], lines_along_join(kind, paper, equation, told[1]))
    return spelt_lines(kind, paper[1] + [lemma], len(paper[1]))
