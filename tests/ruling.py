"""Uses, forms, overlaps and rounds for tests, worked out by the words of points 62d to 64a."""

from deedworlds.weights import compared
from tests.helpers import count_parts, letters_in
from tests.walks import all_paths, at, fitted, put, with_at

LETTERS = ("u", "v", "w", "x", "y", "z")


def all_uses(pairs, one):
    return [(k, path) for path in all_paths(one) for k, pair in enumerate(pairs)
            if fitted(pair[0], at(one, path), {}) is not None]


def behind(pairs, one, use):
    k, path = use
    return with_at(one, path, put(pairs[k][1], fitted(pairs[k][0], at(one, path), {})))


def form(pairs, one, most=500):
    """(form, uses), or one of the texts big and many."""
    uses = []
    while True:
        ways = all_uses(pairs, one)
        if not ways:
            return one, uses
        if len(uses) == most:
            return "many"
        one = behind(pairs, one, ways[0])
        uses.append(ways[0])
        if count_parts(one) > 60:
            return "big"


def walk(one, by):
    while one[0] == "var" and one[1] in by:
        one = by[one[1]]
    return one


def stands_in(name, one, by):
    one = walk(one, by)
    return one[1] == name if one[0] == "var" else any(stands_in(name, part, by) for part in one[2])


def made_one(one, other, by):
    """The dict, gone on, by which two terms become one where it is put in again and again, or None."""
    one, other = walk(one, by), walk(other, by)
    if one == other:
        return by
    if one[0] == "var":
        return None if stands_in(one[1], other, by) else {**by, one[1]: other}
    if other[0] == "var":
        return made_one(other, one, by)
    if one[1] != other[1]:
        return None
    for inner, part in zip(one[2], other[2]):
        by = made_one(inner, part, by)
        if by is None:
            return None
    return by


def put_wholly(one, by):
    one = walk(one, by)
    return one if one[0] == "var" else ("deed", one[1], tuple(put_wholly(part, by) for part in one[2]))


def first_come(one):
    if one[0] == "var":
        return [one[1]]
    told = []
    for part in one[2]:
        told += [name for name in first_come(part) if name not in told]
    return told


def by_letters(whole, *terms):
    names = {name: ("var", letter) for name, letter in zip(first_come(whole), LETTERS)}
    return tuple(put(one, names) for one in terms)


def overlap(first, second, path):
    """(whole, one, other), None, or the text big."""
    others = {name: ("var", name + "'") for name in LETTERS}
    left, right = (put(one, others) for one in second)
    by = made_one(at(first[0], path), left, {})
    if by is None:
        return None
    terms = [put_wholly(one, by) for one in (first[0], first[1], with_at(first[0], path, right))]
    if max(count_parts(one) for one in terms) > 60:
        return "big"
    return by_letters(terms[0], *terms)


def all_overlaps(pairs):
    """The list of all, or the text big."""
    told = []
    for i, first in enumerate(pairs):
        for j, second in enumerate(pairs):
            for path in all_paths(first[0]):
                if at(first[0], path)[0] == "var" or (not path and i >= j):
                    continue
                found = overlap(first, second, path)
                if found == "big":
                    return "big"
                if found is not None:
                    told.append((i, j, path) + found)
    return told


class Stopped(Exception):
    """It stops at once."""


class Rounds:
    """Rounds as point 64a tells them: the rules, and how it ends."""

    def __init__(self, kind, weighing, most=40, parts=25):
        self.kind, self.weighing, self.most, self.parts = kind, weighing, most, parts
        self.rules, self.looked, self.unlike = [], 0, 0
        try:
            for left, right in kind[1]:
                self.put(left, right, 2)
            while self.go():
                pass
            self.ending = "stopped" if self.unlike else "complete"
        except Stopped:
            self.ending = "at once"

    def put(self, one, other, lines):
        ways = {"heavier": (one, other), "lighter": (other, one)}
        pair = ways.get(compared(self.kind[0], self.weighing, one, other))
        if pair is None or len(letters_in(pair[0])) > 3:
            return False
        if len(self.rules) == self.most or max(map(count_parts, pair)) > self.parts or lines > 600:
            raise Stopped
        self.rules.append(pair)
        return True

    def formed(self, one):
        told = form(self.rules, one)
        if told in ("big", "many"):
            raise Stopped
        return told

    def go(self):
        found = all_overlaps(self.rules)
        if found == "big":
            raise Stopped
        self.unlike, came = 0, False
        todo = [(left, right, 1) for left, right in self.kind[1]] + [(row[4], row[5], 2) for row in found]
        for one, other, steps in todo:
            if self.looked == 2000:
                raise Stopped
            self.looked += 1
            (end, uses), (other_end, others) = self.formed(one), self.formed(other)
            if end != other_end:
                self.unlike += 1
                came = self.put(end, other_end, 1 + steps + len(uses) + len(others)) or came
        return came


def is_tidy(pairs):
    for n, (left, right) in enumerate(pairs):
        others = pairs[:n] + pairs[n + 1:]
        if all_uses(others, left) or all_uses(pairs, right):
            return False
    return True


def rule_texts(pairs, text):
    """The pairs by their texts, lettered as they first come in their left terms."""
    return sorted((text(left), text(right)) for left, right in (by_letters(pair[0], *pair) for pair in pairs))


def one_step(kind, number, turned=False):
    """The lemma of one step by an equation."""
    left, right = kind[1][number][::-1] if turned else kind[1][number]
    pairs = tuple((name, ("var", name)) for name in letters_in(left, right))
    return (left, right, [(left, None), (right, (number, turned, (), pairs))])
