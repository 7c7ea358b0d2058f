"""The free model over letters: the rows of all terms in them, each with a term of the fewest parts."""

from deedworlds.basics import is_row, is_whole, power
from deedworlds.errors import NoLetters, NoName, NoNumber, NoRow, TooMany
from deedworlds.models import need_model
from deedworlds.tablework import letter_column, table_of, term_column
from deedworlds.terms import MOST_PARTS, MOST_PLACES, VARIABLES, need_term
from deedworlds.termwork import variables_of

MOST_ROWS = 100
MOST_WORTHS = 64
MOST_FREE = 3


def need_letters(signature, model, letters):
    """Refuse what is no signature, no model, no number of letters."""
    need_model(signature, model)
    if not is_whole(letters) or not 1 <= letters <= MOST_FREE:
        raise NoNumber("no number of letters")


def row_of(signature, model, letters, term):
    """The row of a term for the first letters."""
    need_letters(signature, model, letters)
    need_term(signature, term)
    chosen = VARIABLES[:letters]
    if not all([name in chosen for name in variables_of([term])]):
        raise NoLetters("the term has other variables")
    return tuple(term_column(signature, model, term, chosen))


def row_by_deed(table, size, length, rows):
    """What a deed makes of rows of a length, place by place."""
    if not rows:
        return (table[0],) * length
    if len(rows) == 1:
        return tuple([table[number] for number in rows[0]])
    return tuple([table[one * size + other] for one, other in zip(rows[0], rows[1])])


class FreeRows:
    """The rows found so far, each with a term, told by how many parts this has.

    Whatever has a row by a term of so many parts has one by a deed of the found terms of fewer
    parts: so the rows come by the parts of their least terms."""

    def __init__(self, signature, model, letters):
        self.signature = signature
        self.model = model
        self.length = power(model[0], letters)
        self.found = {}
        self.by_parts = [[]]
        for parts in range(1, MOST_PLACES * MOST_PARTS + 2):
            self.by_parts.append([])
            if parts == 1:
                for at in range(letters):
                    self.keep_row(parts, tuple(letter_column(model[0], letters, at)), ("var", VARIABLES[at]))
            self.add_deeds(parts)

    def keep_row(self, parts, row, term):
        """Keep a row with its term, if it is a new one; refuse a row too many, or without a term small enough."""
        if row not in self.found:
            if parts > MOST_PARTS or len(self.found) == MOST_ROWS:
                raise TooMany("too many rows, or a term with too many parts")
            self.found[row] = term
            self.by_parts[parts].append(row)

    def add_deeds(self, parts):
        """Keep what the deeds make, by terms of so many parts, of the rows found ahead."""
        for (name, places), table in zip(self.signature, self.model[1]):
            for rows in self.tuples_of_rows(places, parts - 1):
                row = row_by_deed(table, self.model[0], self.length, rows)
                if row not in self.found:
                    self.keep_row(parts, row, ("deed", name, tuple([self.found[below] for below in rows])))

    def tuples_of_rows(self, places, parts):
        """All tuples of as many found rows as places whose terms have so many parts together."""
        if places == 0:
            return [()] if parts == 0 else []
        if places == 1:
            return [(row,) for row in self.rows_with(parts)]
        pairs = []
        for first in range(1, parts):
            seconds = self.rows_with(parts - first)
            pairs.extend([(one, other) for one in self.rows_with(first) for other in seconds])
        return pairs

    def rows_with(self, parts):
        """The found rows whose terms have so many parts."""
        return list(self.by_parts[parts]) if parts <= MOST_PARTS else []


def found_rows(signature, model, letters):
    """A dict from all rows of the free model to their terms; refused where there is too much of it."""
    need_letters(signature, model, letters)
    if power(model[0], letters) > MOST_WORTHS:
        raise TooMany("rows of too many worths")
    return FreeRows(signature, model, letters).found


def free_rows(signature, model, letters):
    """All rows of the free model, in the order of tuples, each with a term of the fewest parts."""
    found = found_rows(signature, model, letters)
    return [(row, found[row]) for row in sorted(list(found))]


def free_deed(signature, model, letters, name, rows):
    """What a deed makes of rows of the free model."""
    found = found_rows(signature, model, letters)
    many = [deed[1] for deed in signature if deed[0] == name]
    if not many:
        raise NoName("no deed of this name")
    length = power(model[0], letters)
    if not isinstance(rows, tuple) or len(rows) != many[0]:
        raise NoRow("no tuple of as many rows as the deed has places")
    if not all([is_row(row, length, model[0]) and row in found for row in rows]):
        raise NoRow("no row of the free model")
    return row_by_deed(table_of(signature, model[1], name), model[0], length, rows)
