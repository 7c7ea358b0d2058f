"""Readings of a signature by another one: each deed as a term of that one."""

from deedworlds.errors import NoReading, TooBig
from deedworlds.models import need_model
from deedworlds.tablework import term_column
from deedworlds.terms import MOST_PARTS, VARIABLES, need_signature, need_term, wrong_in_term
from deedworlds.termwork import exchanged, grown_many, variables_of


def is_reading_of_deed(places, others, thing):
    """Whether it is a term of the other deeds, with no variables but those for so many places."""
    if wrong_in_term(others, thing) is not None:
        return False
    return all([name in VARIABLES[:places] for name in variables_of([thing])])


def reading_wrong(signature, other, thing):
    """None of a reading of a signature by another one, else the first that is not so."""
    need_signature(signature)
    need_signature(other)
    if not isinstance(thing, tuple) or len(thing) != len(signature):
        return ("reading",)
    others = dict(other)
    for k, deed in enumerate(signature):
        if not is_reading_of_deed(deed[1], others, thing[k]):
            return ("deed", k)
    return None


def need_reading(signature, other, reading):
    """Refuse what are no signatures, then what is no reading of the one by the other."""
    if reading_wrong(signature, other, reading) is not None:
        raise NoReading("no reading")


def reading_by_names(signature, reading):
    """The terms as which deeds are read, by their names."""
    return {deed[0]: term for deed, term in zip(signature, reading)}


def parts_read(by_names, term):
    """How many parts a term has as read."""
    if term[0] == "var":
        return 1
    told = by_names[term[1]]
    grown_by = {}
    for letter, inner in zip(VARIABLES, term[2]):
        grown_by[letter] = parts_read(by_names, inner)
    return grown_many(told, grown_by)


def read_by(by_names, term):
    """A term as read; what is dropped isn't read at all."""
    if term[0] == "var":
        return term
    told = by_names[term[1]]
    wanted = variables_of([told])
    putting = {}
    for letter, inner in zip(VARIABLES, term[2]):
        if letter in wanted:
            putting[letter] = read_by(by_names, inner)
    return exchanged(told, putting)


def small_read_by(by_names, term):
    """A term as read; refused where that has too many parts."""
    if parts_read(by_names, term) > MOST_PARTS:
        raise TooBig("the term as read has too many parts")
    return read_by(by_names, term)


def term_read(signature, other, reading, term):
    """The term of the other signature as which a term is read."""
    need_reading(signature, other, reading)
    need_term(signature, term)
    return small_read_by(reading_by_names(signature, reading), term)


def model_read(signature, other, reading, model):
    """The model of the first signature in which each deed tells what its term comes to in a model of the other."""
    need_reading(signature, other, reading)
    need_model(other, model)
    tables = []
    for deed, term in zip(signature, reading):
        tables.append(tuple(term_column(other, model, term, VARIABLES[:deed[1]])))
    return (model[0], tuple(tables))


def two_read(first, second, third, one, two):
    """The reading of the first signature by the third that reads by one, then by the other."""
    need_signature(first)
    need_signature(second)
    need_signature(third)
    need_reading(first, second, one)
    need_reading(second, third, two)
    by_names = reading_by_names(second, two)
    return tuple([small_read_by(by_names, term) for term in one])
