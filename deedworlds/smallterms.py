"""Small terms of a signature, and which of them come to the same in given models."""

from deedworlds.basics import power
from deedworlds.tablework import letter_column, table_of
from deedworlds.terms import VARIABLES
from deedworlds.termwork import text_of


def many_by_parts(signature, parts, letters):
    """How many terms there are of each count of parts, from 0 on up to the told one."""
    many = [0, letters + len([deed for deed in signature if deed[1] == 0])]
    ones = len([deed for deed in signature if deed[1] == 1])
    twos = len([deed for deed in signature if deed[1] == 2])
    for count in range(2, parts + 1):
        both = sum([many[first] * many[count - 1 - first] for first in range(1, count - 1)])
        many.append(ones * many[count - 1] + twos * both)
    return many


def terms_of_parts(signature, by_parts, count):
    """All terms of so many parts, of those of fewer parts."""
    told = []
    for name, places in signature:
        if places == 1:
            told.extend([("deed", name, (inner,)) for inner in by_parts[count - 1]])
        if places == 2:
            for first in range(1, count - 1):
                seconds = by_parts[count - 1 - first]
                told.extend([("deed", name, (one, other)) for one in by_parts[first] for other in seconds])
    return sorted(told, key=text_of)


def all_small_terms(signature, parts, letters):
    """All small terms, each ahead of those of more parts, or of as many and a greater text."""
    ones = [("var", name) for name in VARIABLES[:letters]]
    ones.extend([("deed", name, ()) for name, places in signature if places == 0])
    by_parts = [[], sorted(ones, key=text_of)]
    for count in range(2, parts + 1):
        by_parts.append(terms_of_parts(signature, by_parts, count))
    told = []
    for terms in by_parts:
        told.extend(terms)
    return told


def parts_by_places(terms):
    """For each term its head and the places of its own terms in the list; terms stand behind their own parts."""
    place_of = {text_of(term): place for place, term in enumerate(terms)}
    told = []
    for term in terms:
        below = term[2] if term[0] == "deed" else ()
        told.append((term[1], [place_of[text_of(part)] for part in below]))
    return told


def columns_in(signature, model, letters, rows):
    """What each small term, by its head and places of terms, comes to by all worths for the letters."""
    size, tables = model
    many = power(size, letters)
    told = []
    for head, below in rows:
        if head in VARIABLES:
            told.append(tuple(letter_column(size, letters, VARIABLES.index(head))))
            continue
        table = table_of(signature, tables, head)
        if not below:
            told.append((table[0],) * many)
        elif len(below) == 1:
            told.append(tuple([table[number] for number in told[below[0]]]))
        else:
            firsts, seconds = told[below[0]], told[below[1]]
            told.append(tuple([table[one * size + other] for one, other in zip(firsts, seconds)]))
    return told


def lots_by_columns(signature, models, letters, terms):
    """The lists of the places of terms that come to the same in all models, each rising, by their first ones."""
    rows = parts_by_places(terms)
    lots = [0] * len(terms)
    for model in models:
        met = {}
        fresh = []
        for lot, column in zip(lots, columns_in(signature, model, letters, rows)):
            fresh.append(met.setdefault((lot, column), len(met)))
        lots = fresh
    told = {}
    for place, lot in enumerate(lots):
        told.setdefault(lot, []).append(place)
    return list(told.values())
