"""Orders and renamed tables, of what is known to be right."""

from deedworlds.basics import are_unlike_below, rows_below


def is_order(thing, size):
    """Whether it is a tuple of the numbers below the size, each once."""
    return isinstance(thing, tuple) and len(thing) == size and are_unlike_below(thing, size)


def orders_of(size):
    """All orders of a size, in the order of tuples."""
    rows = [()]
    for step in range(size):
        rows = [row + (number,) for row in rows for number in range(size) if number not in row]
    return rows


def turned_back(order):
    """The order that calls the numbers back."""
    back = [0] * len(order)
    for number, called in enumerate(order):
        back[called] = number
    return tuple(back)


def renamed_table(size, places, table, order):
    """The table of a deed when the numbers are called by an order."""
    back = turned_back(order)
    if places == 0:
        return (order[table[0]],)
    if places == 1:
        return tuple([order[table[number]] for number in back])
    return tuple([order[table[one * size + other]] for one in back for other in back])


def renamed_tables(signature, size, tables, order):
    """The tables of all deeds when the numbers are called by an order."""
    told = []
    for (name, places), table in zip(signature, tables):
        told.append(renamed_table(size, places, table, order))
    return tuple(told)


def is_same_for_all(size, places, table):
    """Whether every order makes the same table of it.

    All orders are made of the exchange of 0 and 1 and of the order that goes round."""
    if size == 1:
        return True
    numbers = tuple(range(size))
    exchange = (1, 0) + numbers[2:]
    around = numbers[1:] + (0,)
    return (renamed_table(size, places, table, exchange) == table
            and renamed_table(size, places, table, around) == table)


def with_called(olds, names, old):
    """A beginning of an order in which this number is called by the next free name."""
    return (olds + (old,), names[:old] + (len(olds),) + names[old + 1:])


def all_called(begins, many):
    """The beginnings, each gone on in all ways until so many names are given."""
    while len(begins[0][0]) < many:
        longer = []
        for olds, names in begins:
            longer.extend([with_called(olds, names, old) for old in range(len(names)) if names[old] < 0])
        begins = longer
    return begins


def least_worth(size, table, args, begins):
    """The least number that the beginnings make of a cell, and those of them that make it.

    A number without a name gets the next free one, as any other would be greater."""
    best = size
    kept = []
    for olds, names in begins:
        at = 0
        for arg in args:
            at = at * size + olds[arg]
        worth = names[table[at]]
        told = len(olds) if worth < 0 else worth
        if told < best:
            best = told
            kept = []
        if told == best:
            kept.append(with_called(olds, names, table[at]) if worth < 0 else (olds, names))
    return best, kept


def least_begins(signature, size, tables):
    """The least renamed tables, and the beginnings of just those orders that make them.

    A beginning is a pair: the numbers that have names, by these, and the name of each number,
    -1 where it has none yet. Of several that are kept all have equally many names."""
    begins = [((), (-1,) * size)]
    least = []
    for (name, places), table in zip(signature, tables):
        if is_same_for_all(size, places, table):
            least.append(table)
            continue
        row = []
        for args in rows_below(size, places):
            if args:
                begins = all_called(begins, max(args) + 1)
            best, begins = least_worth(size, table, args, begins)
            row.append(best)
        least.append(tuple(row))
    return tuple(least), begins


def least_tables(signature, size, tables):
    """The least tables that orders make of these."""
    return least_begins(signature, size, tables)[0]


def orders_to_least(signature, size, tables):
    """All orders that make the least tables of these."""
    begins = all_called(least_begins(signature, size, tables)[1], size)
    return [names for olds, names in begins]


def renamings_many(signature, size, tables):
    """How many different tables all orders make of these."""
    many = 1
    for number in range(size):
        many *= number + 1
    return many // len(orders_to_least(signature, size, tables))


def least_of_all(signature, size, rows):
    """The least tables of all of these, each once, in the order of tuples.

    Of tables that were met several times by other names, all that are in the rows are left out
    at once: a long list mostly has many names of few tables."""
    left = {tables: True for tables in rows}
    found = {}
    for tables in rows:
        if left.pop(tables, False):
            least = least_tables(signature, size, tables)
            found[least] = found.get(least, 0) + 1
            if found[least] == 4:
                for order in orders_of(size):
                    left.pop(renamed_tables(signature, size, tables, order), False)
    return sorted(list(found))
