"""Terms by numbers: the same term has one number alone, so that what was met is known again at once."""

from deedworlds.terms import VARIABLES


class Stock:
    """The terms that were met, each with its head, the numbers below it, its parts and itself."""

    def __init__(self):
        self.met = {}
        self.heads = []
        self.below = []
        self.sizes = []
        self.terms = []

    def number_for(self, head, below):
        """The number of a variable, or of a deed over terms by their numbers; no variable is a deed's name."""
        key = (head,) + below
        number = self.met.get(key, -1)
        if number < 0:
            number = len(self.heads)
            self.met[key] = number
            self.heads.append(head)
            self.below.append(below)
            self.sizes.append(1 + sum([self.sizes[one] for one in below]))
            self.terms.append(self.term_for(head, below))
        return number

    def term_for(self, head, below):
        """The term of a head over terms by their numbers."""
        if head in VARIABLES:
            return ("var", head)
        return ("deed", head, tuple([self.terms[one] for one in below]))

    def number_of_term(self, term):
        """The number of a term."""
        if term[0] == "var":
            return self.number_for(term[1], ())
        below = []
        for part in term[2]:
            below.append(self.number_of_term(part))
        return self.number_for(term[1], tuple(below))

    def number_put(self, pattern, found):
        """The number of what a pattern becomes by a dict from its variables to numbers."""
        if pattern[0] == "var":
            return found[pattern[1]]
        below = []
        for part in pattern[2]:
            below.append(self.number_put(part, found))
        return self.number_for(pattern[1], tuple(below))

    def fits(self, pattern, number, found):
        """Whether a pattern becomes a term, where its variables go on from those that are found; finds them."""
        todo = [(pattern, number)]
        while todo:
            one, other = todo.pop()
            if one[0] == "var":
                if found.setdefault(one[1], other) != other:
                    return False
            elif one[1] != self.heads[other]:
                return False
            else:
                todo.extend(list(zip(one[2], self.below[other])))
        return True

    def parts_with_paths(self, number):
        """All parts of a term by their numbers, with their paths, in the order of places."""
        told = []
        todo = [((), number)]
        while todo:
            path, part = todo.pop()
            told.append((path, part))
            below = self.below[part]
            for k in reversed(range(len(below))):
                todo.append((path + (k,), below[k]))
        return told

    def number_with(self, number, path, other):
        """The number of a term with another one at a path."""
        above = []
        for k in path:
            above.append(number)
            number = self.below[number][k]
        told = other
        for k, upper in zip(path[::-1], above[::-1]):
            below = self.below[upper]
            told = self.number_for(self.heads[upper], below[:k] + (told,) + below[k + 1:])
        return told

    def only_unlike(self, one, other):
        """The place of the one term below two of one head at which they differ, None where it isn't so."""
        if self.heads[one] != self.heads[other]:
            return None
        pairs = list(zip(self.below[one], self.below[other]))
        places = [k for k, pair in enumerate(pairs) if pair[0] != pair[1]]
        return places[0] if len(places) == 1 else None
