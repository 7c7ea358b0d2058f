"""Kinds completed by a weighing, and complete papers made tidy."""

from deedworlds.basics import is_whole
from deedworlds.complete import need_paper, rule_pairs
from deedworlds.completing import Completing
from deedworlds.errors import NoNumber, TooBig, TooMany
from deedworlds.terms import letters_for, need_kind
from deedworlds.termwork import exchanged, text_of
from deedworlds.tidying import Tidying
from deedworlds.weights import need_weighing

MOST_RULES = 40
MOST_RULE_PARTS = 25


def need_up_to(number, most):
    """Refuse what is no whole number from 1 to the most."""
    if not is_whole(number) or not 1 <= number <= most:
        raise NoNumber("no such number")


def completed(kind, weighing, *, most=40, parts=25):
    """A tidy complete paper of the kind, or the lemmas and rules at which it stopped."""
    need_kind(kind)
    need_weighing(kind[0], weighing)
    need_up_to(most, MOST_RULES)
    need_up_to(parts, MOST_RULE_PARTS)
    completing = Completing(kind, weighing, most, parts)
    try:
        left = completing.left_of_rounds()
        if left:
            return completing.stopped(left)
        rules = list(range(len(completing.lemmas)))
        return ("complete", Tidying(kind, completing.lemmas, rules).tidy_paper(weighing))
    except (TooMany, TooBig):
        return completing.stopped([])


def tidied(kind, paper):
    """A tidy complete paper of the same weighing and forms."""
    need_paper(kind, paper)
    return Tidying(kind, paper[1], paper[2]).tidy_paper(paper[0])


def lettered_pair(pair):
    """A pair with u, v, w for the variables, as they first come in its left term."""
    putting = letters_for([pair[0]])
    return (exchanged(pair[0], putting), exchanged(pair[1], putting))


def texts_of_pair(pair):
    """The texts of both terms of a pair."""
    return (text_of(pair[0]), text_of(pair[1]))


def rule_set(kind, paper):
    """The pairs of a complete paper's rules, lettered, in order of their texts."""
    need_paper(kind, paper)
    return sorted([lettered_pair(pair) for pair in rule_pairs(paper)], key=texts_of_pair)
