"""Complete rules made tidy: none can be used in another one's left term, nor any in a right term."""

from deedworlds.errors import TooMany
from deedworlds.forming import Forming
from deedworlds.forms import MOST_USES, lines_by_uses
from deedworlds.lemmas import MOST_LEMMAS
from deedworlds.overlaps import overlaps
from deedworlds.termwork import fitting, part_at, paths_of


def is_needless(lefts, n):
    """Whether another left term can be used in this one; of two that are alike by letters the first one stays."""
    parts = [part_at(lefts[n], path) for path in paths_of(lefts[n])]
    for m, left in enumerate(lefts):
        if m != n and any([fitting(left, part) is not None for part in parts]):
            if m < n or fitting(lefts[n], left) is None:
                return True
    return False


def kept_places(pairs):
    """The places of the pairs whose left terms are needed: in what they can be used, the others can."""
    lefts = [left for left, right in pairs]
    return [n for n in range(len(lefts)) if not is_needless(lefts, n)]


def lemmas_gone_by(many, lines):
    """The places of the lemmas by which lines go, where the kind has so many equations."""
    return [reason[0] - many for term, reason in lines[1:] if reason[0] >= many]


def needed_lemmas(many, lemmas, rows):
    """The places of all lemmas by which some rows of lines go, also by others, rising."""
    needed = [False] * len(lemmas)
    for lines in rows:
        for place in lemmas_gone_by(many, lines):
            needed[place] = True
    for place in range(len(lemmas) - 1, -1, -1):
        if needed[place]:
            for other in lemmas_gone_by(many, lemmas[place][2]):
                needed[other] = True
    return [place for place in range(len(lemmas)) if needed[place]]


def renumbered(many, lines, new_places):
    """Lines whose lemmas have new places."""
    told = lines[:1]
    for term, (number, turned, path, put) in lines[1:]:
        number = many + new_places[number - many] if number >= many else number
        told.append((term, (number, turned, path, put)))
    return told


class Tidying:
    """The lemmas and rules of a kind, and what is made of them."""

    def __init__(self, kind, lemmas, rules):
        self.signature, self.equations = kind
        self.lemmas = lemmas
        self.rules = rules
        self.pairs = [lemmas[place][:2] for place in rules]

    def tidy_lines(self):
        """The lines of each rule that is kept, from its left term to the form of its right one."""
        begin = len(self.equations)
        numbers = [begin + place for place in self.rules]
        forming = Forming(self.pairs)
        told = []
        for n in kept_places(self.pairs):
            left, right = self.pairs[n]
            end, uses = forming.form(right, MOST_USES)
            told.append(lines_by_uses(self.pairs, numbers, left, [(n, ())] + uses))
        return told

    def tidy_lemmas(self):
        """The lemmas that are needed, and the places of those that are the tidy rules."""
        many = len(self.equations)
        rows = self.tidy_lines()
        places = needed_lemmas(many, self.lemmas, rows)
        new_places = {place: at for at, place in enumerate(places)}
        told = []
        for place in places:
            left, right, lines = self.lemmas[place]
            told.append((left, right, renumbered(many, lines, new_places)))
        rules = []
        for lines in rows:
            if len(lines) == 2:
                # its right term is its form already: the lemma itself is the rule
                rules.append(new_places[lines[1][1][0] - many])
            else:
                rules.append(len(told))
                told.append((lines[0][0], lines[-1][0], renumbered(many, lines, new_places)))
        if len(told) > MOST_LEMMAS:
            raise TooMany("too many lemmas")
        return (told, rules)

    def tidy_paper(self, weighing):
        """A tidy complete paper of the same forms."""
        lemmas, rules = self.tidy_lemmas()
        pairs = [lemmas[place][:2] for place in rules]
        forming = Forming(pairs)
        axioms = [join_by(forming, left, right) for left, right in self.equations]
        joins = [join_by(forming, overlap[4], overlap[5]) for overlap in overlaps(self.signature, pairs)]
        return (weighing, lemmas, rules, axioms, joins)


def join_by(forming, one, other):
    """The join of two terms that have one form."""
    return (forming.form(one, MOST_USES)[1], forming.form(other, MOST_USES)[1])
