"""Work on signatures and tables that are known to be right: nothing is refused here."""

from deedworlds.basics import place_of_row, power, rows_below


def table_of(signature, tables, name):
    """The table of the deed of this name."""
    for deed, table in zip(signature, tables):
        if deed[0] == name:
            return table
    return None


def cells_with_worths(signature, model):
    """All cells of a model, by deeds, each a tuple of its name, its args and its worth."""
    told = []
    for (name, places), table in zip(signature, model[1]):
        for args, worth in zip(rows_below(model[0], places), table):
            told.append((name, args, worth))
    return told


def worth_under(signature, model, term, putting):
    """The number that a term comes to by a dict from its variables to numbers."""
    if term[0] == "var":
        return putting[term[1]]
    numbers = []
    for part in term[2]:
        numbers.append(worth_under(signature, model, part, putting))
    return table_of(signature, model[1], term[1])[place_of_row(model[0], numbers)]


def letter_column(size, many, at):
    """What the variable at a place has in all rows of worths for so many variables."""
    step = power(size, many - 1 - at)
    return [row // step % size for row in range(power(size, many))]


def term_column(signature, model, term, letters):
    """The numbers to which a term comes by all rows of worths for these variables, in order."""
    size, tables = model
    if term[0] == "var":
        return letter_column(size, len(letters), letters.index(term[1]))
    table = table_of(signature, tables, term[1])
    columns = []
    for part in term[2]:
        columns.append(term_column(signature, model, part, letters))
    if not columns:
        return [table[0]] * power(size, len(letters))
    if len(columns) == 1:
        return [table[number] for number in columns[0]]
    return [table[one * size + other] for one, other in zip(columns[0], columns[1])]


def text_of_table(places, size, table):
    """The numbers of a table as they stand in a model's text."""
    if places < 2:
        return " ".join([str(number) for number in table])
    rows = []
    for first in range(size):
        rows.append(" ".join([str(number) for number in table[first * size:(first + 1) * size]]))
    return ", ".join(rows)


def text_of_model(signature, size, tables):
    """The text of a model: a line for its size, and one for each deed."""
    lines = [f"MODEL {size}"]
    for (name, places), table in zip(signature, tables):
        lines.append(f"{name} {text_of_table(places, size, table)}")
    return "\n".join(lines)
