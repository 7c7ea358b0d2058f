"""Terms, equations and kinds as texts, told and read."""

from deedworlds.errors import NoText
from deedworlds.linereader import LineReader
from deedworlds.termreader import read_equation_line, read_signature_line, read_term_line
from deedworlds.terms import MOST_EQUATIONS, letters_for, need_equation, need_kind, need_signature, need_term
from deedworlds.termwork import exchanged, text_of


def text_of_equation(equation):
    """The text of an equation that is known to be right."""
    return f"{text_of(equation[0])} = {text_of(equation[1])}"


def term_text(signature, term):
    """The text of a term."""
    need_term(signature, term)
    return text_of(term)


def equation_text(signature, equation):
    """The text of an equation."""
    need_equation(signature, equation)
    return text_of_equation(equation)


def kind_text(kind):
    """The text of a kind: a line for its signature, and one for each equation."""
    need_kind(kind)
    signature, equations = kind
    words = ["KIND"] + [f"{name}/{places}" for name, places in signature]
    return "\n".join([" ".join(words)] + [text_of_equation(equation) for equation in equations])


def read_term(signature, text):
    """The term that a text writes."""
    need_signature(signature)
    return read_term_line(signature, LineReader(0, text))


def read_equation(signature, text):
    """The equation that a text writes."""
    need_signature(signature)
    return read_equation_line(signature, LineReader(0, text))


def read_kind(text):
    """The kind that a text writes."""
    lines = text.split("\n")
    signature = read_signature_line(LineReader(0, lines[0]))
    equations = []
    for k, line in enumerate(lines[1:]):
        if k == MOST_EQUATIONS:
            raise NoText(k + 1, 0)
        equations.append(read_equation_line(signature, LineReader(k + 1, line)))
    return (signature, tuple(equations))


def lettered_equation(left, right):
    """The equation of two sides with u, v, w and so on for its variables, as they first come."""
    putting = letters_for([left, right])
    return (exchanged(left, putting), exchanged(right, putting))


def least_equation(signature, equation):
    """The lesser one by its text of the equation and the one turned about, both lettered."""
    need_equation(signature, equation)
    one = lettered_equation(equation[0], equation[1])
    other = lettered_equation(equation[1], equation[0])
    return one if text_of_equation(one) <= text_of_equation(other) else other
