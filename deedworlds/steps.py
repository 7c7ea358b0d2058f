"""The steps by which terms are come to from others, by a kind, an equation asked and so many parts."""

from deedworlds.basics import rows_below
from deedworlds.stock import Stock
from deedworlds.termwork import parts_many, variables_of


class Way:
    """An equation of a kind, gone from one side to the other."""

    def __init__(self, equation, number, turned):
        self.number = number
        self.turned = turned
        self.from_side = equation[1] if turned else equation[0]
        self.to_side = equation[0] if turned else equation[1]
        self.letters = variables_of(equation)
        self.bound = variables_of([self.from_side])
        self.lacking = tuple([name for name in self.letters if name not in self.bound])
        self.to_parts = parts_many(self.to_side)
        self.standings = self.standings_of_bound()

    def standings_of_bound(self):
        """How often each variable of the side from which it goes stands in the other one."""
        counts = {name: 0 for name in self.bound}
        todo = [self.to_side]
        while todo:
            part = todo.pop()
            if part[0] == "deed":
                todo.extend(part[2])
            elif part[1] in counts:
                counts[part[1]] += 1
        return counts


def ways_of(kind):
    """All ways of a kind's equations, those from the left to the right first."""
    ways = []
    for number, equation in enumerate(kind[1]):
        ways.append(Way(equation, number, False))
        ways.append(Way(equation, number, True))
    return ways


class Steps:
    """All steps between terms of at most so many parts; terms are told by their numbers in the stock."""

    def __init__(self, kind, equation, most):
        self.stock = Stock()
        self.most = most
        self.ways = ways_of(kind)
        letters = variables_of(equation) or ("x",)
        self.choices = [self.stock.number_for(name, ()) for name in letters]
        self.open_at = {}
        self.results = {}

    def openings_at(self, part):
        """For each way that goes on from a part itself: its place, and by how much the part grows."""
        told = self.open_at.get(part, None)
        if told is None:
            told = []
            for k, way in enumerate(self.ways):
                found = {}
                if self.stock.fits(way.from_side, part, found):
                    told.append((k, self.growth(way, part, found)))
            self.open_at[part] = told
        return told

    def growth(self, way, part, found):
        """By how much a part grows along a way."""
        grown = way.to_parts - self.stock.sizes[part]
        for name in way.bound:
            grown += way.standings[name] * (self.stock.sizes[found[name]] - 1)
        return grown

    def results_of(self, part, k):
        """What a part becomes along a way: others than itself, each with what is put for the variables."""
        told = self.results.get((part, k), None)
        if told is None:
            told = []
            way = self.ways[k]
            found = {}
            self.stock.fits(way.from_side, part, found)
            for row in rows_below(len(self.choices), len(way.lacking)):
                for name, chosen in zip(way.lacking, row):
                    found[name] = self.choices[chosen]
                result = self.stock.number_put(way.to_side, found)
                if result != part:
                    told.append((result, tuple([found[name] for name in way.letters])))
            self.results[(part, k)] = told
        return told

    def openings(self, number):
        """Each path of a term with the part there and a way that goes on from it, where there is room."""
        room = self.most - self.stock.sizes[number]
        if room < 0:
            return []
        told = []
        for path, part in self.stock.parts_with_paths(number):
            for k, grown in self.openings_at(part):
                if grown <= room:
                    told.append((path, part, k))
        return told

    def put_between(self, way, part, other):
        """What is put for the variables where a part becomes another one along a way, or None."""
        found = {}
        if not self.stock.fits(way.from_side, part, found) or not self.stock.fits(way.to_side, other, found):
            return None
        if not all([found[name] in self.choices for name in way.lacking]):
            return None
        return tuple([found[name] for name in way.letters])

    def step_between(self, number, other):
        """A step from a term to another one: its path, way and what is put; None where there is none."""
        if max(self.stock.sizes[number], self.stock.sizes[other]) > self.most:
            return None
        path = ()
        while True:
            for k, way in enumerate(self.ways):
                put = self.put_between(way, number, other)
                if put is not None:
                    return (path, k, put)
            place = self.stock.only_unlike(number, other)
            if place is None:
                return None
            path += (place,)
            number = self.stock.below[number][place]
            other = self.stock.below[other][place]

    def reason_of(self, path, k, put):
        """The reason of a line that comes by a step."""
        way = self.ways[k]
        terms = [(name, self.stock.terms[number]) for name, number in zip(way.letters, put)]
        return (way.number, way.turned, path, tuple(terms))

    def leads_outside(self, number, inside):
        """Whether some term that is come to from this one isn't among those inside."""
        for path, part, k in self.openings(number):
            for result, put in self.results_of(part, k):
                if self.stock.number_with(number, path, result) not in inside:
                    return True
        return False
