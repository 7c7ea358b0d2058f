"""Lemmas: roads that go by a kind's equations and by lemmas ahead; and rules made of them by a weighing."""

from deedworlds.basics import are_unlike_below, is_below
from deedworlds.errors import NoLemmas, NoNumber, NoRules
from deedworlds.roads import judged_by_steps, with_letters
from deedworlds.spelling import spelt_lines
from deedworlds.terms import need_kind, wrong_in_term
from deedworlds.termwork import variables_of
from deedworlds.weights import is_heavier, need_weighing

MOST_LEMMAS = 200
MOST_RULE_LETTERS = 3


def has_lemmas_form(places, thing):
    """Whether it is a list of tuples of three, not of too many, the first two terms."""
    if not isinstance(thing, list) or len(thing) > MOST_LEMMAS:
        return False
    for lemma in thing:
        if not isinstance(lemma, tuple) or len(lemma) != 3:
            return False
        if wrong_in_term(places, lemma[0]) is not None or wrong_in_term(places, lemma[1]) is not None:
            return False
    return True


def lemmas_wrong(kind, thing):
    """None of lemmas of the kind, else the first that is not so."""
    need_kind(kind)
    places = dict(kind[0])
    if not has_lemmas_form(places, thing):
        return ("lemmas",)
    steps = with_letters(kind[1])
    for k, (left, right, lines) in enumerate(thing):
        wrong = judged_by_steps(places, steps, left, right, lines)
        if wrong is not None:
            return ("lemma", k, wrong)
        steps.append((left, right, variables_of((left, right))))
    return None


def need_lemmas(kind, lemmas):
    """Refuse what is no kind, then what are no lemmas of it."""
    wrong = lemmas_wrong(kind, lemmas)
    if wrong is not None:
        raise NoLemmas(wrong)


def spelt(kind, lemmas, number):
    """A road of a lemma's sides by the kind's equations alone."""
    need_lemmas(kind, lemmas)
    if not is_below(number, len(lemmas)):
        raise NoNumber("no lemma has this place")
    return spelt_lines(kind, lemmas, number)


def are_places(thing, many):
    """Whether it is a list of places below so many, none twice."""
    return isinstance(thing, list) and are_unlike_below(thing, many)


def is_rule(signature, weighing, lemma):
    """Whether the left side of a lemma is heavier than its right one and has few enough variables."""
    left, right, lines = lemma
    return len(variables_of([left])) <= MOST_RULE_LETTERS and is_heavier(signature, weighing, left, right)


def wrong_in_rules(signature, weighing, lemmas, thing):
    """What rules_wrong tells, of a weighing and lemmas that are known to be right."""
    if not are_places(thing, len(lemmas)):
        return ("rules",)
    for n, place in enumerate(thing):
        if not is_rule(signature, weighing, lemmas[place]):
            return ("rule", n)
    return None


def rules_wrong(kind, weighing, lemmas, thing):
    """None of rules of a weighing and lemmas, else the first that is not so."""
    need_kind(kind)
    need_weighing(kind[0], weighing)
    need_lemmas(kind, lemmas)
    return wrong_in_rules(kind[0], weighing, lemmas, thing)


def need_rules(kind, weighing, lemmas, rules):
    """Refuse what is no kind, no weighing, what are no lemmas, then what are no rules of these."""
    if rules_wrong(kind, weighing, lemmas, rules) is not None:
        raise NoRules("no rules")


def pairs_of(kind, weighing, lemmas, rules):
    """The sides of the rules, in order."""
    need_rules(kind, weighing, lemmas, rules)
    return [lemmas[place][:2] for place in rules]
