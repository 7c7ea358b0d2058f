"""Lemmas spelt out: their steps by lemmas exchanged for those lemmas' own, down to the kind's equations."""

from deedworlds.errors import TooBig, TooMany
from deedworlds.roads import MOST_LINES
from deedworlds.terms import MOST_PARTS
from deedworlds.termwork import exchanged, exchanged_many, parts_many, variables_of, with_part


def put_behind(put, putting):
    """The putting that puts in first what a step puts, then another putting; refused where a term grows too big.

    What the step doesn't name is put in by the other one alone. Each variable that a step puts stands
    at an end of what is told for the step, so that a term that is too big here is one of the road's."""
    told = {name: putting[name] for name in putting}
    for name in put:
        if exchanged_many(put[name], putting) > MOST_PARTS:
            raise TooBig("a term with too many parts")
        told[name] = exchanged(put[name], putting)
    return told


def step_behind(step, other):
    """The one step that another one leads to, which stands for all that a step by a lemma goes."""
    number, turned, path, put = other
    return (number, turned != step[1], step[2] + path, put_behind(put, step[3]))


class Spelling:
    """Lemmas that are known to be right, with their steps: tuples (number, turned, path, putting)."""

    def __init__(self, kind, lemmas):
        self.equations = kind[1]
        self.steps = []
        self.many = []
        for left, right, lines in lemmas:
            # a lemma whose sides are the same may go by no step at all: what goes by it stays where it is
            reasons = [reason for term, reason in lines[1:] if self.steps_many(reason[0]) > 0]
            self.steps.append([(number, turned, path, dict(put)) for number, turned, path, put in reasons])
            self.many.append(sum([self.steps_many(reason[0]) for reason in reasons]))

    def steps_many(self, number):
        """How many steps by equations stand for one by an equation, or by a lemma ahead."""
        return 1 if number < len(self.equations) else self.many[self.place_of_lemma(number)]

    def place_of_lemma(self, number):
        """The place of the lemma for which a number stands."""
        return number - len(self.equations)

    def needed_for(self, place):
        """The places of all lemmas by which one goes, its own too, rising."""
        needed = [False] * place + [True]
        for at in range(place, -1, -1):
            if needed[at]:
                for step in self.steps[at]:
                    if step[0] >= len(self.equations):
                        needed[self.place_of_lemma(step[0])] = True
        return [at for at in range(place + 1) if needed[at]]

    def shorten(self, place):
        """Let steps by lemmas that go by one step alone be this one: so rows of such lemmas aren't gone again."""
        shorter = []
        for step in self.steps[place]:
            if step[0] >= len(self.equations):
                inner = self.steps[self.place_of_lemma(step[0])]
                if len(inner) == 1:
                    step = step_behind(step, inner[0])
            shorter.append(step)
        self.steps[place] = shorter

    def spelt_steps(self, place):
        """The steps of a lemma by equations alone."""
        for at in self.needed_for(place):
            self.shorten(at)
        told = []
        todo = [(len(self.equations) + place, False, (), {})]
        while todo:
            step = todo.pop()
            if step[0] < len(self.equations):
                told.append(step)
            else:
                inner = self.steps[self.place_of_lemma(step[0])]
                ordered = inner if step[1] else inner[::-1]
                todo.extend([step_behind(step, other) for other in ordered])
        return told

    def road_from(self, left, steps):
        """The road from a term along steps by equations; refused where a term grows too big."""
        lines = [(left, None)]
        term = left
        for number, turned, path, putting in steps:
            equation = self.equations[number]
            term = with_part(term, path, exchanged(equation[0] if turned else equation[1], putting))
            if parts_many(term) > MOST_PARTS:
                raise TooBig("a term with too many parts")
            put = tuple([(name, putting[name]) for name in variables_of(equation)])
            lines.append((term, (number, turned, path, put)))
        return lines


def spelt_lines(kind, lemmas, place):
    """The road of a lemma's sides by the kind's equations alone, of lemmas that are known to be right."""
    spelling = Spelling(kind, lemmas)
    if spelling.many[place] >= MOST_LINES:
        raise TooMany("too many lines")
    return spelling.road_from(lemmas[place][0], spelling.spelt_steps(place))
