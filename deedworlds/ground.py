"""What the known cells of a search make of the terms of its equations, kept while cells come and go."""

from deedworlds.basics import place_of_row, rows_below
from deedworlds.termwork import variables_of


def cells_in_order(signature, size):
    """All cells, by the greatest arg, then by deeds, then by args."""
    cells = []
    for top in range(-1, size):
        for name, places in signature:
            for args in rows_below(size, places):
                if max(args, default=-1) == top:
                    cells.append((name, args))
    return cells


class Ground:
    """The ground terms of some equations at a size, each by its number, with their worths.

    First come the numbers of the size, then the cells in order; each other ground term is a deed
    of ground terms. Where these have worths it waits for the cell that they lead to. So a cell
    that becomes known touches only what hangs on it, and all of this can be taken back."""

    def __init__(self, kind, size):
        self.size = size
        self.worths = list(range(size))
        self.parts = [()] * size
        self.uppers = [[] for number in range(size)]
        self.checks = [[] for number in range(size)]
        self.goals = [-1] * size
        self.by_parts = {}
        self.deed_at = {deed[0]: k for k, deed in enumerate(kind[0])}
        self.cells = cells_in_order(kind[0], size)
        for name, args in self.cells:
            self.ground_of((self.deed_at[name],) + args)
        self.waiting = [[] for number in self.worths]
        self.table_cells = [self.cells_of_deed(deed) for deed in kind[0]]
        self.told = []
        self.waits = []
        self.broken = []
        self.marks = []
        self.sides = []
        for equation in kind[1]:
            self.add_equation(equation)

    def ground_of(self, parts):
        """The number of the ground term of a deed and ground terms, by the numbers of these."""
        number = self.by_parts.get(parts, -1)
        if number < 0:
            number = len(self.worths)
            self.by_parts[parts] = number
            self.worths.append(-1)
            self.parts.append(parts)
            self.uppers.append([])
            self.checks.append([])
            self.goals.append(-1)
            for part in parts[1:]:
                self.uppers[part].append(number)
        return number

    def cell_number(self, name, args):
        """The number of the ground term that is this cell."""
        return self.by_parts[(self.deed_at[name],) + args]

    def cells_of_deed(self, deed):
        """The numbers of the cells of a deed, as they stand in its table."""
        return [self.cell_number(deed[0], args) for args in rows_below(self.size, deed[1])]

    def column(self, term, letters, rows):
        """The ground terms that a term makes by all rows of worths for the letters."""
        if term[0] == "var":
            at = letters.index(term[1])
            return [row[at] for row in rows]
        deed = self.deed_at[term[1]]
        if not term[2]:
            return [self.ground_of((deed,))] * len(rows)
        columns = []
        for part in term[2]:
            columns.append(self.column(part, letters, rows))
        return [self.ground_of((deed,) + parts) for parts in zip(*columns)]

    def add_equation(self, equation):
        """Look from now on at an equation under all worths, of those that say the same at the first ones."""
        letters = variables_of(equation)
        rows = rows_below(self.size, len(letters))
        lefts = self.column(equation[0], letters, rows)
        rights = self.column(equation[1], letters, rows)
        number = len(self.sides)
        self.sides.append((lefts, rights, rows))
        met = {}
        for at, pair in enumerate(zip(lefts, rights)):
            if pair not in met:
                met[pair] = True
                self.add_check(number, at, pair[0], pair[1])

    def add_check(self, number, at, left, right):
        """Look from now on at two ground terms that an equation says to be the same."""
        if left < self.size and right < self.size:
            if left != right:
                self.broken.append((number, at))
        elif left != right:
            self.checks[left].append((number, at, right))
            self.checks[right].append((number, at, left))

    def make_known(self, cell, worth):
        """Let a cell that isn't known be known by a worth, with all that comes of it."""
        self.marks.append((len(self.told), len(self.waits), len(self.broken)))
        self.worths[cell] = worth
        todo = [cell]
        while todo:
            number = todo.pop()
            self.told.append(number)
            self.check(number)
            if number < len(self.waiting):
                todo.extend(self.woken(number))
            for upper in self.uppers[number]:
                if self.comes_to_worth(upper):
                    todo.append(upper)

    def check(self, number):
        """Mark what is broken by a ground term that has a worth now."""
        worth = self.worths[number]
        for equation, at, other in self.checks[number]:
            if self.worths[other] >= 0 and self.worths[other] != worth:
                self.broken.append((equation, at))

    def woken(self, cell):
        """Those that waited for a cell, with its worth."""
        for number in self.waiting[cell]:
            self.worths[number] = self.worths[cell]
        return self.waiting[cell]

    def comes_to_worth(self, number):
        """Give a ground term whose terms have worths its own, if its cell is known; else let it wait."""
        if self.worths[number] >= 0 or self.goals[number] >= 0:
            return False
        parts = self.parts[number]
        args = tuple([self.worths[part] for part in parts[1:]])
        if min(args) < 0:
            return False
        cell = self.by_parts[parts[:1] + args]
        if self.worths[cell] >= 0:
            self.worths[number] = self.worths[cell]
            return True
        self.goals[number] = cell
        self.waiting[cell].append(number)
        self.waits.append(number)
        return False

    def take_back(self):
        """Let all be as it was ahead of the last cell that became known."""
        told, waits, broken = self.marks.pop()
        while len(self.told) > told:
            self.worths[self.told.pop()] = -1
        while len(self.waits) > waits:
            number = self.waits.pop()
            self.waiting[self.goals[number]].pop()
            self.goals[number] = -1
        while len(self.broken) > broken:
            self.broken.pop()

    def first_broken_worths(self):
        """The least equation that is broken, and of it the first worths."""
        number, at = min(self.broken)
        return (number, self.sides[number][2][at])

    def is_broken_under(self, number, worths):
        """Whether an equation is broken under worths for its letters."""
        lefts, rights, rows = self.sides[number]
        at = place_of_row(self.size, worths)
        left, right = self.worths[lefts[at]], self.worths[rights[at]]
        return left >= 0 and right >= 0 and left != right

    def known_tables(self):
        """The tables of the known cells, -1 where one isn't known."""
        tables = []
        for cells in self.table_cells:
            tables.append(tuple([self.worths[cell] for cell in cells]))
        return tuple(tables)
