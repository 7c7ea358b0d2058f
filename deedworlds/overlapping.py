"""Overlaps of pairs that are known to be right, found by their numbers in a stock."""

from deedworlds.errors import TooBig
from deedworlds.stock import Stock
from deedworlds.terms import MOST_PARTS, letters_for
from deedworlds.termwork import exchanged, grown_many, variables_met, with_part
from deedworlds.union import Union

FIRST_LETTERS = ("u", "v", "w")
SECOND_LETTERS = ("x", "y", "z")


def called_by(pair, letters):
    """A pair with its variables, as they first come, exchanged for these letters."""
    putting = {name: ("var", letter) for name, letter in zip(variables_met(pair[0]), letters)}
    return (exchanged(pair[0], putting), exchanged(pair[1], putting))


class Overlapping:
    """Pairs, each as a first one and as a second one, so that no variable is common."""

    def __init__(self, pairs):
        self.stock = Stock()
        self.firsts = []
        self.seconds = []
        self.places = []
        self.lefts = []
        for pair in pairs:
            self.put_pair(pair)

    def put_pair(self, pair):
        """One pair more, behind all."""
        first, second = called_by(pair, FIRST_LETTERS), called_by(pair, SECOND_LETTERS)
        self.firsts.append(first)
        self.seconds.append(second)
        self.places.append(self.stock.parts_with_paths(self.stock.number_of_term(first[0])))
        self.lefts.append(self.stock.number_of_term(second[0]))

    def part_number(self, i, path):
        """The number of what stands at a path of the left term of a first one."""
        number = self.places[i][0][1]
        for k in path:
            number = self.stock.below[number][k]
        return number

    def laid_over(self, i, j, path, part):
        """The overlap of two pairs at a path at which this part stands, or None."""
        union = Union(self.stock)
        if not union.can_be_one(part, self.lefts[j]):
            return None
        many = union.parts_made(part)
        if many == 0:
            return None
        if many > MOST_PARTS:
            raise TooBig("an overlap with too many parts")
        return self.whole_and_both(i, j, path, union)

    def whole_and_both(self, i, j, path, union):
        """The tuple of whole, one and other, by what is made one."""
        sizes = {}
        putting = {}
        for letter in FIRST_LETTERS + SECOND_LETTERS:
            number = union.number_made(self.stock.number_for(letter, ()))
            sizes[letter] = self.stock.sizes[number]
            putting[letter] = self.stock.terms[number]
        left, right = self.firsts[i]
        terms = (left, right, with_part(left, path, self.seconds[j][1]))
        if max([grown_many(term, sizes) for term in terms]) > MOST_PARTS:
            raise TooBig("an overlap with too many parts")
        whole, one, other = [exchanged(term, putting) for term in terms]
        letters = letters_for([whole])
        return (exchanged(whole, letters), exchanged(one, letters), exchanged(other, letters))

    def all_of_two(self, i, j):
        """All overlaps of two pairs: tuples (i, j, path, whole, one, other), in the order of paths."""
        told = []
        head = self.stock.heads[self.lefts[j]]
        for path, part in self.places[i]:
            if self.stock.heads[part] == head and (path or i < j):
                found = self.laid_over(i, j, path, part)
                if found is not None:
                    told.append((i, j, path) + found)
        return told
