"""Rounds that make an equation's kind complete: rules are put behind until none is wanted any more."""

from deedworlds.errors import TooBig, TooMany
from deedworlds.forming import Forming
from deedworlds.forms import MOST_USES, lines_by_uses
from deedworlds.lemmas import MOST_LEMMAS, MOST_RULE_LETTERS
from deedworlds.overlapping import Overlapping
from deedworlds.roads import MOST_LINES
from deedworlds.termwork import fitting, part_at, parts_many, variables_of
from deedworlds.weights import is_heavier

MOST_LOOKED = 2000


def own_put(sides):
    """What is put where each variable of the sides stays as it is."""
    return tuple([(name, ("var", name)) for name in variables_of(sides)])


def put_for(pattern, term, sides):
    """What is put in a reason by which the pattern, one of the sides, becomes the term."""
    putting = fitting(pattern, term)
    return tuple([(name, putting[name]) for name in variables_of(sides)])


def turned_lines(lines):
    """Lines that go by lemmas, from the last one back to the first."""
    told = [(lines[-1][0], None)]
    for at in range(len(lines) - 1, 0, -1):
        number, turned, path, put = lines[at][1]
        told.append((lines[at - 1][0], (number, not turned, path, put)))
    return told


class Completing:
    """Lemmas, of which all are rules till the end, and the rounds that are gone over them."""

    def __init__(self, kind, weighing, most, parts):
        self.signature, self.equations = kind
        self.weighing = weighing
        self.most_rules = most
        self.most_parts = parts
        self.lemmas = []
        self.pairs = []
        self.forming = Forming([])
        self.overlapping = Overlapping([])
        self.laid = {}
        self.looked = 0

    def heavier_first(self, left, right):
        """Whether to turn two sides so that they are a rule, False or True, None where they can't be one."""
        for turned, one, other in ((False, left, right), (True, right, left)):
            if is_heavier(self.signature, self.weighing, one, other):
                return turned if len(variables_of([one])) <= MOST_RULE_LETTERS else None
        return None

    def put_rule(self, lines):
        """One rule more, of the ends of lines by lemmas; refused where it is one too many, or too great."""
        left, right = lines[0][0], lines[-1][0]
        if len(self.pairs) == self.most_rules or len(lines) > MOST_LINES:
            raise TooMany("too many rules, or too many lines")
        if parts_many(left) > self.most_parts or parts_many(right) > self.most_parts:
            raise TooBig("a rule with too many parts")
        self.lemmas.append((left, right, lines))
        self.pairs.append((left, right))
        self.forming.put_pair((left, right))
        self.overlapping.put_pair((left, right))

    def equation_lines(self, number):
        """The lines of one step by an equation."""
        left, right = self.equations[number]
        return [(left, None), (right, (number, False, (), own_put((left, right))))]

    def begin_rules(self):
        """Put the equations that can be rules."""
        for number, (left, right) in enumerate(self.equations):
            turned = self.heavier_first(left, right)
            if turned is not None:
                lines = self.equation_lines(number)
                self.put_rule(turned_lines(lines) if turned else lines)

    def overlaps_now(self):
        """The overlaps of the rules there are, in order; those of two rules are found once alone."""
        told = []
        for i in range(len(self.pairs)):
            for j in range(len(self.pairs)):
                if (i, j) not in self.laid:
                    self.laid[(i, j)] = self.overlapping.all_of_two(i, j)
                told.extend(self.laid[(i, j)])
        return told

    def overlap_lines(self, overlap):
        """The lines of two steps by rules from the one side of an overlap to the other."""
        i, j, path, whole, one, other = overlap
        begin = len(self.equations)
        back = (begin + i, True, (), put_for(self.pairs[i][0], whole, self.pairs[i]))
        forth = (begin + j, False, path, put_for(self.pairs[j][0], part_at(whole, path), self.pairs[j]))
        return [(one, None), (whole, back), (other, forth)]

    def go_round(self):
        """Go over all equations and overlaps; tell the lines of those whose forms are unlike, and if a rule came."""
        found = self.overlaps_now()
        ahead = len(self.pairs)
        left = []
        for number in range(len(self.equations)):
            left.extend(self.looked_at(self.equation_lines(number)))
        for overlap in found:
            left.extend(self.looked_at(self.overlap_lines(overlap)))
        return (left, len(self.pairs) > ahead)

    def looked_at(self, lines):
        """Lead the ends of lines to their forms; put a rule where these are unlike, and tell the lines in a list."""
        if self.looked == MOST_LOOKED:
            raise TooMany("too many equations and overlaps gone over")
        self.looked += 1
        end, uses = self.forming.form(lines[0][0], MOST_USES)
        other_end, other_uses = self.forming.form(lines[-1][0], MOST_USES)
        if end == other_end:
            return []
        turned = self.heavier_first(end, other_end)
        if turned is not None:
            between = self.lines_between(lines, uses, other_uses)
            self.put_rule(turned_lines(between) if turned else between)
        return [lines]

    def lines_between(self, middle, uses, other_uses):
        """The lines from the form of the first term of a row to that of its last one."""
        numbers = list(range(len(self.equations), len(self.equations) + len(self.pairs)))
        begin = turned_lines(lines_by_uses(self.pairs, numbers, middle[0][0], uses))
        end = lines_by_uses(self.pairs, numbers, middle[-1][0], other_uses)
        return begin + middle[1:] + end[1:]

    def left_of_rounds(self):
        """Go rounds till one brings no rule; the lines of those whose forms are unlike then."""
        self.begin_rules()
        came = True
        while came:
            left, came = self.go_round()
        return left

    def stopped(self, left):
        """What is told where it stops, with as many lemmas as there is room for of those whose forms are unlike."""
        many = len(self.lemmas)
        lemmas = self.lemmas + [(lines[0][0], lines[-1][0], lines) for lines in left[:MOST_LEMMAS - many]]
        return ("stopped", lemmas, list(range(many)), list(range(many, len(lemmas))))
