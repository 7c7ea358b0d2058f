"""Whole numbers, and rows of numbers below a size."""


def is_whole(thing):
    """Whether it is a whole number; a truth is none."""
    return isinstance(thing, int) and not isinstance(thing, bool)


def is_below(thing, size):
    """Whether it is one of the whole numbers from 0 to one less than the size."""
    return is_whole(thing) and 0 <= thing < size


def is_row(thing, many, size):
    """Whether it is a tuple of so many numbers below the size."""
    return isinstance(thing, tuple) and len(thing) == many and all([is_below(number, size) for number in thing])


def are_unlike_below(things, size):
    """Whether all are numbers below the size, none twice."""
    met = [False] * size
    for number in things:
        if not is_below(number, size) or met[number]:
            return False
        met[number] = True
    return True


def power(base, many):
    """The base times itself, so many times."""
    told = 1
    for step in range(many):
        told *= base
    return told


def rows_below(size, many):
    """All rows of so many numbers below the size, in the order of tuples."""
    rows = [()]
    for step in range(many):
        rows = [row + (number,) for row in rows for number in range(size)]
    return rows


def rising_lists(size):
    """All rising lists of numbers below the size."""
    lists = [[]]
    for number in range(size):
        lists = lists + [one + [number] for one in lists]
    return lists


def place_of_row(size, row):
    """The place that a row has among all of its length."""
    place = 0
    for number in row:
        place = place * size + number
    return place


def row_at_place(size, many, place):
    """The row of so many numbers that has this place."""
    row = []
    for step in range(many):
        row.append(place % size)
        place //= size
    return tuple(row[::-1])
