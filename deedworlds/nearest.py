"""How far models are from one another, and which models of a kind are nearest to a model."""

from deedworlds.basics import is_whole, place_of_row
from deedworlds.counting import all_tables
from deedworlds.errors import NoNumber, NoSize
from deedworlds.models import need_model, need_two_models
from deedworlds.ordering import renamed_tables
from deedworlds.tablework import cells_with_worths, table_of
from deedworlds.terms import need_kind


def far_from(signature, one, other):
    """In how many cells of their tables two models of one size differ."""
    need_two_models(signature, one, other)
    if one[0] != other[0]:
        raise NoSize("models of unlike sizes")
    many = 0
    for first, second in zip(one[1], other[1]):
        many += len([True for left, right in zip(first, second) if left != right])
    return many


class Nearest:
    """The renamed models that are nearest to a model, of all that were gone through."""

    def __init__(self, signature, model):
        self.signature = signature
        self.model = model
        self.far = -1
        self.nearest = {}

    def look_at(self, tables):
        """Go through all names of the numbers of these tables, but those that lead too far."""
        size = self.model[0]
        cells = [[] for number in range(size)]
        for name, args, worth in cells_with_worths(self.signature, (size, tables)):
            there = table_of(self.signature, self.model[1], name)
            cells[max(args + (worth,))].append((args, worth, there))
        self.go_on(tables, cells, (), 0)

    def go_on(self, tables, cells, names, far):
        """Go on from the names of the first numbers, by which so many cells differ already."""
        if self.far >= 0 and far > self.far:
            return
        if len(names) == len(cells):
            self.keep(tables, names, far)
            return
        for name in range(len(cells)):
            if name not in names:
                longer = names + (name,)
                self.go_on(tables, cells, longer, far + self.unlike_many(cells[len(names)], longer))

    def unlike_many(self, cells, names):
        """How many of some cells differ from the model's own, when the numbers are so called."""
        many = 0
        for args, worth, there in cells:
            if there[place_of_row(self.model[0], [names[arg] for arg in args])] != names[worth]:
                many += 1
        return many

    def keep(self, tables, names, far):
        """Keep renamed tables that are as near as the nearest, or nearer."""
        if far != self.far:
            self.far = far
            self.nearest = {}
        self.nearest[renamed_tables(self.signature, len(names), tables, names)] = True


def found_nearest(kind, model):
    """The nearest models of a kind that are to be had for a model of its signature."""
    found = Nearest(kind[0], model)
    for tables in all_tables(kind, model[0]):
        found.look_at(tables)
    return found


def nearest(kind, model):
    """How far the nearest models of a kind are from a model, and one of them; None where there is none."""
    need_kind(kind)
    need_model(kind[0], model)
    found = found_nearest(kind, model)
    return (found.far, (model[0], min(list(found.nearest)))) if found.nearest else None


def mended(kind, model, *, most=12):
    """The models of a kind that are nearest to a model, in the order of tuples, at most so many."""
    need_kind(kind)
    need_model(kind[0], model)
    if not is_whole(most) or most < 0:
        raise NoNumber("no number of models")
    found = found_nearest(kind, model)
    return [(model[0], tables) for tables in sorted(list(found.nearest))[:most]]
