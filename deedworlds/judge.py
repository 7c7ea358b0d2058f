"""One judge of all answers to a claim: a road, a model, all that was searched, or rules that are complete."""

from deedworlds.answers import STATES, answer_judged, answered
from deedworlds.complete import complete_wrong, decided_by, need_paper, wrong_in_decided
from deedworlds.copying import own_copy
from deedworlds.errors import NoAnswer
from deedworlds.terms import need_equation, need_kind


def is_by_rules(thing):
    """Whether it begins as an answer by rules."""
    return isinstance(thing, tuple) and len(thing) > 0 and thing[0] == "rules"


def claim_judged(kind, equation, thing):
    """None of a right answer to a claim, whoever wrote it, else the first that is not so."""
    need_kind(kind)
    need_equation(kind[0], equation)
    if not is_by_rules(thing):
        return answer_judged(kind, equation, thing)
    if len(thing) != 3:
        return ("answer",)
    wrong = complete_wrong(kind, thing[1])
    if wrong is not None:
        return ("paper", wrong)
    return wrong_in_decided(thing[1], equation, thing[2])


def right_state(answer):
    """The state that an answer tells that is known to be right."""
    if answer[0] == "rules":
        return "holds" if answer[2][0] == "holds" else "refuted"
    return STATES[answer[0]]


def claim_state(kind, equation, answer):
    """The state that a right answer tells: holds, refuted or open."""
    wrong = claim_judged(kind, equation, answer)
    if wrong is not None:
        raise NoAnswer(wrong)
    return right_state(answer)


def answer_by_paper(paper, equation):
    """The answer to a claim by a complete paper that is known to be right, the paper told anew."""
    return ("rules", own_copy(paper), decided_by(paper, equation))


def found_answer(kind, equation, size, *, paper=None, parts=9):
    """An answer to a claim: by a complete paper, where one is handed in, else what answered tells."""
    need_kind(kind)
    need_equation(kind[0], equation)
    if paper is None:
        return answered(kind, equation, size, parts=parts)
    need_paper(kind, paper)
    return answer_by_paper(paper, equation)
