"""Joins of models that are known to be right: lots that grow together, and the steps by which they do."""

from deedworlds.basics import is_row, place_of_row
from deedworlds.tablework import cells_with_worths, table_of


def with_arg(args, at, other):
    """The args with another number at a place."""
    return args[:at] + (other,) + args[at + 1:]


class Linker:
    """Links numbers of a model by steps, as few as tie each lot together.

    What a deed makes of two numbers that a step links lies in one lot: such a step is told behind
    where both weren't tied ahead. Steps stay as they are, so that each leans on those ahead alone."""

    def __init__(self, signature, model, pairs):
        self.size = model[0]
        self.lots = list(range(model[0]))
        self.steps = []
        for k, (one, other) in enumerate(pairs):
            self.link(one, other, ("pair", k))
        tables = {name: table_of(signature, model[1], name) for name, places in signature}
        cells = cells_with_worths(signature, model)
        at = 0
        while at < len(self.steps):
            self.link_deeds(cells, tables, at)
            at += 1

    def link(self, one, other, reason):
        """Tie two numbers together by a step, if they aren't in one lot yet."""
        low, high = sorted([self.lots[one], self.lots[other]])
        if low != high:
            self.lots = [low if lot == high else lot for lot in self.lots]
            self.steps.append((one, other, reason))

    def link_deeds(self, cells, tables, i):
        """Tie what the deeds make of the two numbers of a step."""
        begin, end, reason = self.steps[i]
        for name, args, worth in cells:
            for at, arg in enumerate(args):
                if arg == begin:
                    place = place_of_row(self.size, with_arg(args, at, end))
                    self.link(worth, tables[name][place], ("deed", name, args, at, i))

    def steps_along(self, one, other):
        """The numbers of the steps that lead from a number to another one of its lot."""
        ways = {one: []}
        todo = [one]
        while other not in ways:
            here = todo.pop()
            for i, (begin, end, reason) in enumerate(self.steps):
                for this, there in ((begin, end), (end, begin)):
                    if this == here and there not in ways:
                        ways[there] = ways[here] + [i]
                        todo.append(there)
        return ways[other]


def all_partings(size):
    """All ways to lay the numbers below a size in lots, each told by the least number of each one's lot, in order."""
    rows = [[]]
    for number in range(size):
        rows = [row + [least] for row in rows for least in sorted(set(row)) + [number]]
    return rows


def goes_with_deeds(signature, model, lots):
    """Whether what the deeds make of numbers lot by lot alike lies in one lot."""
    tables = {name: table_of(signature, model[1], name) for name, places in signature}
    for name, args, worth in cells_with_worths(signature, model):
        for at, arg in enumerate(args):
            place = place_of_row(model[0], with_arg(args, at, lots[arg]))
            if lots[worth] != lots[tables[name][place]]:
                return False
    return True


def is_join(signature, model, thing):
    """Whether it is a join of the model."""
    if not isinstance(thing, list) or not is_row(tuple(thing), model[0], model[0]):
        return False
    for number, least in enumerate(thing):
        if least > number or thing[least] != least:
            return False
    return goes_with_deeds(signature, model, thing)
