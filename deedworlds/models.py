"""Models of a signature: what they are, what terms come to in them, and what they keep."""

from deedworlds.basics import is_below, is_row, is_whole, place_of_row, power, row_at_place
from deedworlds.errors import NoArgs, NoEquation, NoLetters, NoModel, NoName, NoSize, NoWorths
from deedworlds.tablework import table_of, term_column, text_of_model, worth_under
from deedworlds.terms import (
    MOST_EQUATIONS, MOST_LETTERS, MOST_SIZE, VARIABLES, equation_wrong, need_equation, need_kind, need_signature,
    need_term,
)
from deedworlds.termwork import variables_of


def is_size(thing):
    """Whether it is a size of a model."""
    return is_whole(thing) and 1 <= thing <= MOST_SIZE


def need_size(size):
    """Refuse what is no size of a model."""
    if not is_size(size):
        raise NoSize("no size")


def first_odd_cell(size, tables):
    """The first table and place where no number of the model stands, or None."""
    for k, table in enumerate(tables):
        for at, number in enumerate(table):
            if not is_below(number, size):
                return (k, at)
    return None


def model_wrong(signature, thing):
    """None of a model of the signature, else the first that is not so."""
    need_signature(signature)
    if not isinstance(thing, tuple) or len(thing) != 2:
        return ("model",)
    size, tables = thing
    if not is_size(size):
        return ("size",)
    if not isinstance(tables, tuple) or len(tables) != len(signature):
        return ("tables",)
    for k, deed in enumerate(signature):
        if not isinstance(tables[k], tuple) or len(tables[k]) != power(size, deed[1]):
            return ("table", k)
    odd = first_odd_cell(size, tables)
    return None if odd is None else ("cell", odd[0], odd[1])


def need_model(signature, model):
    """Refuse what is no signature, then what is no model of it."""
    if model_wrong(signature, model) is not None:
        raise NoModel("no model")


def need_two_models(signature, one, other):
    """Refuse what is no signature, then what is no model of it, the first one first."""
    need_model(signature, one)
    need_model(signature, other)


def worth_by(signature, model, term, worths):
    """The number that a term comes to by worths."""
    need_model(signature, model)
    need_term(signature, term)
    letters = variables_of([term])
    if not is_row(worths, len(letters), model[0]):
        raise NoWorths("no worths for the term")
    return worth_under(signature, model, term, dict(zip(letters, worths)))


def is_chosen(thing, letters):
    """Whether it is a tuple of at most four variables, rising, that has all these letters."""
    if not isinstance(thing, tuple) or len(thing) > MOST_LETTERS:
        return False
    if list(thing) != [name for name in VARIABLES if name in thing]:
        return False
    return all([name in thing for name in letters])


def worth_row(signature, model, term, chosen):
    """The numbers to which a term comes by all rows of numbers for the chosen variables."""
    need_model(signature, model)
    need_term(signature, term)
    if not is_chosen(chosen, variables_of([term])):
        raise NoLetters("no variables for the term")
    return tuple(term_column(signature, model, term, chosen))


def unlike_places(signature, model, equation):
    """The places, among all worths in order, at which the sides come to unlike numbers."""
    letters = variables_of(equation)
    left = term_column(signature, model, equation[0], letters)
    right = term_column(signature, model, equation[1], letters)
    return [at for at, (one, other) in enumerate(zip(left, right)) if one != other]


def unlike_under(signature, model, equation, worths):
    """Whether the sides of an equation come to unlike numbers by worths that are known to be right."""
    putting = dict(zip(variables_of(equation), worths))
    return (worth_under(signature, model, equation[0], putting)
            != worth_under(signature, model, equation[1], putting))


def first_unkept(kind, model):
    """What first_broken tells, of what is known to be right."""
    signature, equations = kind
    for k, equation in enumerate(equations):
        places = unlike_places(signature, model, equation)
        if places:
            return (k, row_at_place(model[0], len(variables_of(equation)), places[0]))
    return None


def first_broken(kind, model):
    """None of a model that keeps the kind, else the first equation and worths that break it."""
    need_kind(kind)
    need_model(kind[0], model)
    return first_unkept(kind, model)


def keeps(kind, model):
    """Whether a model keeps all equations of a kind."""
    return first_broken(kind, model) is None


def broken_many(signature, model, equation):
    """By how many worths the sides of an equation are unlike."""
    need_model(signature, model)
    need_equation(signature, equation)
    return len(unlike_places(signature, model, equation))


def is_list_of_equations(signature, thing):
    """Whether it is a list of at most eight equations."""
    if not isinstance(thing, list) or len(thing) > MOST_EQUATIONS:
        return False
    return all([equation_wrong(signature, equation) is None for equation in thing])


def told_by(signature, model, equations):
    """Of each equation of a list whether the model keeps it."""
    need_model(signature, model)
    if not is_list_of_equations(signature, equations):
        raise NoEquation("no list of equations")
    return [not unlike_places(signature, model, equation) for equation in equations]


def deeds_with_tables(signature, tables):
    """The deeds with their tables, by their names."""
    return sorted(list(zip(signature, tables)))


class Model:
    """A model of a signature, as an object that stays as it is."""

    def __init__(self, signature, size, tables):
        need_model(signature, (size, tables))
        self.signature = signature
        self.tables = tables
        self.numbers = tuple(range(size))

    def __eq__(self, other):
        if not isinstance(other, Model) or len(self.numbers) != len(other.numbers):
            return False
        return deeds_with_tables(self.signature, self.tables) == deeds_with_tables(other.signature, other.tables)

    def __len__(self):
        return len(self.numbers)

    def __str__(self):
        return str(text_of_model(self.signature, len(self.numbers), self.tables))

    def its_signature(self):
        """The signature."""
        return self.signature

    def as_model(self):
        """The tuple of the size and the tables."""
        return (len(self.numbers), self.tables)

    def place_of(self, name, args):
        """The place of these arguments in the table of the deed of this name."""
        many = [deed[1] for deed in self.signature if deed[0] == name]
        if not many:
            raise NoName("no deed of this name")
        size = len(self.numbers)
        if not is_row(args, many[0], size):
            raise NoArgs("no arguments of this deed")
        return place_of_row(size, args)

    def makes(self, name, args):
        """The number that the deed of this name tells of arguments."""
        at = self.place_of(name, args)
        return table_of(self.signature, self.tables, name)[at]

    def with_cell(self, name, args, number):
        """Another Model with this number in this cell."""
        at = self.place_of(name, args)
        size = len(self.numbers)
        if not is_below(number, size):
            raise NoWorths("no number of the model")
        tables = []
        for deed, table in zip(self.signature, self.tables):
            tables.append(table[:at] + (number,) + table[at + 1:] if deed[0] == name else table)
        return Model(self.signature, size, tuple(tables))
