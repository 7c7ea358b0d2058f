"""Terms led down by equations, step by step to the one that stands ahead of all others, kept by numbers."""

from deedworlds.errors import TooMany
from deedworlds.stock import Stock
from deedworlds.termwork import variables_of


class Lowering:
    """Equations, one behind the other, and the best way down from each term by those looked at so far."""

    def __init__(self, equations):
        self.stock = Stock()
        self.written = {}
        self.many = 0
        self.by_deed = {}
        self.by_variable = []
        self.found_best = {}
        for equation in equations:
            self.put_equation(equation)

    def put_equation(self, equation):
        """One equation more, behind all."""
        for turned, one, other in ((False, equation[0], equation[1]), (True, equation[1], equation[0])):
            letters = variables_of([one])
            if all([name in letters for name in variables_of([other])]):
                way = (self.many, turned, one, other)
                if one[0] == "var":
                    self.by_variable.append(way)
                else:
                    self.by_deed.setdefault(one[1], []).append(way)
        self.many += 1

    def text_of_number(self, number):
        """The text of a term by its number."""
        if number not in self.written:
            texts = []
            for below in self.stock.below[number]:
                texts.append(self.text_of_number(below))
            head = self.stock.heads[number]
            inside = ", ".join(texts)
            self.written[number] = f"{head}({inside})" if texts else head
        return self.written[number]

    def ways_at(self, part, since):
        """The ways that may begin at a part, of the equations from a place on."""
        told = []
        for ways in (self.by_variable, self.by_deed.get(self.stock.heads[part], [])):
            at = len(ways)
            while at > 0 and ways[at - 1][0] >= since:
                at -= 1
            told.extend(ways[at:])
        return told

    def place_of_term(self, number):
        """What tells which of two terms stands ahead: how many parts it has, then its text."""
        return (self.stock.sizes[number], self.text_of_number(number))

    def best_of_new(self, number, since, best):
        """The best way down of a term, of the best of the equations ahead and those from a place on."""
        stock = self.stock
        ahead_of = self.place_of_term(number) if best is None else best[0]
        for path, part in stock.parts_with_paths(number):
            around = stock.sizes[number] - stock.sizes[part]
            for order, turned, one, other in self.ways_at(part, since):
                found = {}
                if not stock.fits(one, part, found):
                    continue
                inner = stock.number_put(other, found)
                if around + stock.sizes[inner] > ahead_of[0]:
                    continue
                whole = stock.number_with(number, path, inner)
                place = self.place_of_term(whole)
                if place < ahead_of:
                    ahead_of = place
                    best = (place, whole, (order, turned, path, found))
        return best

    def best_way(self, number):
        """The best way down from a term by all equations there are, None where none leads down."""
        since, best = self.found_best.get(number, (0, None))
        if since < self.many:
            best = self.best_of_new(number, since, best)
            self.found_best[number] = (self.many, best)
        return best

    def row_down(self, term, most):
        """The numbers of the terms on the way down, each with its way from the one ahead; refused where too many."""
        number = self.stock.number_of_term(term)
        row = [(number, None)]
        best = self.best_way(number)
        while best is not None:
            if len(row) == most:
                raise TooMany("too many lines")
            row.append((best[1], best[2]))
            best = self.best_way(best[1])
        return row

    def low_number(self, term, most):
        """The number of the last term on the way down."""
        return self.row_down(term, most)[-1][0]

    def lines_down(self, term, most):
        """The lines of the way down, as of a road."""
        terms = self.stock.terms
        lines = []
        for number, way in self.row_down(term, most):
            if way is None:
                lines.append((terms[number], None))
            else:
                order, turned, path, found = way
                put = tuple([(name, terms[found[name]]) for name in sorted(list(found))])
                lines.append((terms[number], (order, turned, path, put)))
        return lines
