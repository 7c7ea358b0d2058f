"""Terms, equations and the first line of a kind, read from a line."""

from deedworlds.terms import (
    MOST_DEEDS, MOST_LETTERS, MOST_NAME, MOST_PARTS, MOST_SIDE, NAME_LETTERS, VARIABLES,
)


class TermReader:
    """Reads terms of a signature from a line, with bounds for parts and for variables."""

    def __init__(self, signature, line, most_parts, most_letters):
        self.places = dict(signature)
        self.line = line
        self.most_parts = most_parts
        self.most_letters = most_letters
        self.many = 0
        self.letters = []

    def take_side(self):
        """Read a term, its parts counted anew."""
        self.many = 0
        return self.take_term()

    def take_term(self):
        """Read a term that is a part of the one being read."""
        if self.many == self.most_parts:
            self.line.stop()
        self.many += 1
        if self.line.sign() in VARIABLES:
            return self.take_variable()
        name = self.take_name()
        terms = []
        for k in range(self.places[name]):
            self.line.take(", " if k else "(")
            terms.append(self.take_term())
        if terms:
            self.line.take(")")
        return ("deed", name, tuple(terms))

    def take_variable(self):
        """Read a variable; one too many stops the line."""
        name = self.line.sign()
        if name not in self.letters:
            if len(self.letters) == self.most_letters:
                self.line.stop()
            self.letters.append(name)
        self.line.take(name)
        return ("var", name)

    def take_name(self):
        """Read a deed's name: no letter stands behind a whole one, so the longest is meant."""
        name = ""
        while self.line.sign() != "" and self.begins_name(name + self.line.sign()):
            name += self.line.sign()
            self.line.take(self.line.sign())
        if name not in self.places:
            self.line.stop()
        return name

    def begins_name(self, word):
        """Whether some deed's name begins so."""
        return any([name.startswith(word) for name in self.places])


def read_term_line(signature, line):
    """The term that a whole line writes."""
    term = TermReader(signature, line, MOST_PARTS, len(VARIABLES)).take_side()
    line.finish()
    return term


def read_equation_line(signature, line):
    """The equation that a whole line writes."""
    reader = TermReader(signature, line, MOST_SIDE, MOST_LETTERS)
    left = reader.take_side()
    line.take(" = ")
    right = reader.take_side()
    line.finish()
    return (left, right)


def take_new_name(line, names):
    """Read a NAME that is none of these; its last letter stops the line where it can't be another."""
    name = line.take_one_of(NAME_LETTERS)
    while line.sign() != "/" or name in names:
        if len(name) == MOST_NAME - 1 and name + line.sign() in names:
            line.stop()
        if len(name) == MOST_NAME:
            line.stop()
        name += line.take_one_of(NAME_LETTERS)
    return name


def read_signature_line(line):
    """The signature that a kind's first line tells."""
    line.take("KIND")
    deeds = []
    while not deeds or (line.sign() != "" and len(deeds) < MOST_DEEDS):
        line.take(" ")
        name = take_new_name(line, [deed[0] for deed in deeds])
        line.take("/")
        deeds.append((name, int(line.take_one_of("012"))))
    line.finish()
    return tuple(deeds)
