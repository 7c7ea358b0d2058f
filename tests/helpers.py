"""What several tests need: short ways to write terms and models, all tables, and plain counts."""

import copy
import itertools
import random

from deedworlds.texts import read_equation, read_kind, read_term

M = (("m", 2), ("e", 0))
MFE = (("m", 2), ("f", 1), ("e", 0))
VARIABLES = ("u", "v", "w", "x", "y", "z")


def var(name):
    return ("var", name)


def deed(name, *terms):
    return ("deed", name, tuple(terms))


def term(text, signature=MFE):
    return read_term(signature, text)


def equation(text, signature=MFE):
    return read_equation(signature, text)


def kind(*lines):
    return read_kind("\n".join(("KIND " + lines[0],) + lines[1:]))


def tower(name, parts, top=("var", "x")):
    """A term of so many parts: a deed of one place again and again over the top."""
    told = top
    for step in range(parts - 1):
        told = ("deed", name, (told,))
    return told


def nested(many, inside=None):
    """A thing with so many tuples within one another."""
    told = inside
    for step in range(many):
        told = (told,)
    return told


def some_term(chance, signature, parts, letters="uvwxyz"):
    """A term of at most so many parts, by a chance that is the same each time."""
    deeds = [one for one in signature if one[1] < parts]
    if not deeds or chance.random() < 0.25:
        return ("var", chance.choice(letters))
    name, places = chance.choice(deeds)
    left = parts - 1
    terms = []
    for k in range(places):
        most = left - (places - 1 - k)
        part = some_term(chance, signature, chance.randint(1, most), letters)
        left -= count_parts(part)
        terms.append(part)
    return ("deed", name, tuple(terms))


def count_parts(part):
    return 1 + sum(count_parts(inner) for inner in part[2]) if part[0] == "deed" else 1


def letters_in(*terms):
    """The variables, found by another way than the program's."""
    text = repr(terms)
    return tuple(name for name in VARIABLES if f"('var', '{name}')" in text)


def some_model(chance, signature, size):
    return (size, tuple(tuple(chance.randrange(size) for at in range(size ** places))
                        for name, places in signature))


def every_tables(signature, size):
    """All tables of a signature and a size, in the order of tuples."""
    parts = [list(itertools.product(range(size), repeat=size ** places)) for name, places in signature]
    return itertools.product(*parts)


def tables_as_dict(signature, model):
    """The worths of all cells of a model."""
    size, tables = model
    return {(name, args): number for (name, places), table in zip(signature, tables)
            for args, number in zip(itertools.product(range(size), repeat=places), table)}


def worth(signature, model, one, by):
    """What a term comes to by a dict of worths, worked out as point 10 tells it."""
    if one[0] == "var":
        return by[one[1]]
    size, tables = model
    place = [name for name, places in signature].index(one[1])
    args = [worth(signature, model, inner, by) for inner in one[2]]
    at = {0: lambda: 0, 1: lambda: args[0], 2: lambda: args[0] * size + args[1]}[len(args)]()
    return tables[place][at]


def breaks(signature, model, one):
    """The worths by which the sides of an equation are unlike, in order."""
    letters = letters_in(*one)
    told = []
    for row in itertools.product(range(model[0]), repeat=len(letters)):
        by = dict(zip(letters, row))
        if worth(signature, model, one[0], by) != worth(signature, model, one[1], by):
            told.append(row)
    return told


def kept(the_kind, model):
    return all(not breaks(the_kind[0], model, one) for one in the_kind[1])


def called(signature, model, order):
    """The model renamed, cell by cell as point 13 tells it."""
    size, tables = model
    told = []
    for (name, places), table in zip(signature, tables):
        row = [None] * len(table)
        for args in itertools.product(range(size), repeat=places):
            at = to = 0
            for arg in args:
                at, to = at * size + arg, to * size + order[arg]
            row[to] = order[table[at]]
        told.append(tuple(row))
    return (size, tuple(told))


def least(signature, model):
    return min(called(signature, model, order) for order in itertools.permutations(range(model[0])))


def lists_in(thing):
    """All lists and dicts in a thing, at each place where they stand."""
    if isinstance(thing, (list, dict)):
        yield thing
    if isinstance(thing, dict):
        thing = list(thing.values())
    if isinstance(thing, (list, tuple)):
        for inner in thing:
            yield from lists_in(inner)


def spoil(thing):
    """Change all lists and dicts in a thing."""
    for one in list(lists_in(thing)):
        if isinstance(one, list):
            one.append("spoilt")
        else:
            one["spoilt"] = True


def fixed_chance(seed=7):
    return random.Random(seed)


class Checks:
    """Checks for test cases of what is told and of what is refused."""

    def refuses(self, error, function, *things, **named):
        before = copy.deepcopy((things, named))
        with self.assertRaises(error) as caught:
            function(*things, **named)
        self.assertIs(type(caught.exception), error)
        self.assertEqual((things, named), before)
        return caught.exception

    def breaks_at(self, row, at, function, *things):
        from deedworlds.errors import NoText
        told = self.refuses(NoText, function, *things)
        self.assertEqual((told.row, told.at), (row, at), things)

    def own(self, function, *things, **named):
        """Each told list is a new one that stands at one place, and what is handed in stays."""
        before = copy.deepcopy((things, named))
        one = function(*things, **named)
        kept_one = copy.deepcopy(one)
        places = list(lists_in(one))
        self.assertEqual(len(places), len({id(place) for place in places}))
        handed = {id(place) for place in lists_in((things, named))}
        self.assertFalse(handed & {id(place) for place in places})
        spoil(one)
        self.assertEqual((things, named), before)
        self.assertEqual(function(*things, **named), kept_one)
