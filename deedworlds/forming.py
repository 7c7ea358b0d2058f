"""Terms led to their forms by pairs that are known to be right, with what was found kept by numbers."""

from deedworlds.errors import TooBig, TooMany
from deedworlds.stock import Stock
from deedworlds.terms import MOST_PARTS
from deedworlds.termwork import parts_many

MOST_STOCK = 200000


class Forming:
    """Pairs by their first deeds, and the terms in which there is no use of those there are."""

    def __init__(self, pairs):
        self.many = 0
        self.by_deed = {}
        self.stock = Stock()
        self.free = {}
        for pair in pairs:
            self.put_pair(pair)

    def put_pair(self, pair):
        """One pair more, behind all."""
        self.by_deed.setdefault(pair[0][1], []).append((self.many, pair[0], pair[1], parts_many(pair[0])))
        self.many += 1

    def use_of_whole(self, number):
        """The first use of the whole term: a tuple of the pair's place and what it leads to, or None."""
        stock = self.stock
        for k, left, right, parts in self.by_deed.get(stock.heads[number], []):
            if parts <= stock.sizes[number]:
                found = {}
                if stock.fits(left, number, found):
                    return (k, stock.number_put(right, found))
        return None

    def first_use(self, number):
        """The first use in a term: a tuple of the pair's place, the path, and what comes of the part there, or None."""
        if self.free.get(number, -1) == self.many:
            return None
        found = self.use_of_whole(number)
        if found is not None:
            return (found[0], (), found[1])
        for n, below in enumerate(self.stock.below[number]):
            inner = self.first_use(below)
            if inner is not None:
                return (inner[0], (n,) + inner[1], inner[2])
        self.free[number] = self.many
        return None

    def has_use(self, term):
        """Whether there is a use in a term."""
        return self.first_use(self.stock.number_of_term(term)) is not None

    def form(self, term, most):
        """The form of a term and the list of uses done; refused where these are too many, or a term too big."""
        if len(self.stock.heads) > MOST_STOCK:
            self.stock = Stock()
            self.free = {}
        number = self.stock.number_of_term(term)
        uses = []
        found = self.first_use(number)
        while found is not None:
            if len(uses) == most:
                raise TooMany("too many uses")
            k, path, other = found
            number = self.stock.number_with(number, path, other)
            if self.stock.sizes[number] > MOST_PARTS:
                raise TooBig("a term with too many parts")
            uses.append((k, path))
            found = self.first_use(number)
        return (self.stock.terms[number], uses)
