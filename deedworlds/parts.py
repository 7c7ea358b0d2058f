"""Parts of models: closed lists of numbers, and builds that show what numbers make."""

from deedworlds.basics import is_below, is_row, is_whole, place_of_row, rising_lists, rows_below
from deedworlds.errors import NoClosed, NoNumbers
from deedworlds.models import need_model
from deedworlds.tablework import cells_with_worths, table_of


def need_numbers(model, numbers):
    """Refuse what is no list of numbers of the model."""
    if not isinstance(numbers, list) or not all([is_below(number, model[0]) for number in numbers]):
        raise NoNumbers("no list of numbers of the model")


def is_among(args, numbers):
    """Whether all args are among some numbers."""
    return all([arg in numbers for arg in args])


def build_from(signature, model, numbers):
    """A build of just the numbers that some numbers make."""
    steps = [(number, None) for number in sorted(set(numbers))]
    told = [number for number, reason in steps]
    cells = cells_with_worths(signature, model)
    grown = True
    while grown:
        grown = False
        for name, args, worth in cells:
            if worth not in told and is_among(args, told):
                steps.append((worth, (name, args)))
                told.append(worth)
                grown = True
    return steps


def made_by(signature, model, numbers):
    """The least closed list that has some numbers."""
    need_model(signature, model)
    need_numbers(model, numbers)
    return sorted([number for number, reason in build_from(signature, model, numbers)])


def has_worths(signature, model, numbers):
    """Whether each cell whose args are all among some numbers has its worth among them."""
    for name, args, worth in cells_with_worths(signature, model):
        if worth not in numbers and is_among(args, numbers):
            return False
    return True


def closed_lists(signature, model):
    """All closed lists of a model, in the order of lists."""
    need_model(signature, model)
    return sorted([numbers for numbers in rising_lists(model[0]) if has_worths(signature, model, numbers)])


def is_closed(signature, model, thing):
    """Whether it is a closed list of the model."""
    if not isinstance(thing, list) or not is_row(tuple(thing), len(thing), model[0]):
        return False
    return thing == sorted(set(thing)) and has_worths(signature, model, thing)


def part_of(signature, model, closed):
    """The model of a closed list that is known to be right."""
    size, tables = model
    told = []
    for (name, places), table in zip(signature, tables):
        row = []
        for args in rows_below(len(closed), places):
            row.append(closed.index(table[place_of_row(size, [closed[arg] for arg in args])]))
        told.append(tuple(row))
    return (len(closed), tuple(told))


def part(signature, model, closed):
    """The model of a closed list that isn't empty: its number k stands for the list's k-th."""
    need_model(signature, model)
    if closed == [] or not is_closed(signature, model, closed):
        raise NoClosed("no closed list with something in it")
    return part_of(signature, model, closed)


def build(signature, model, numbers):
    """A build of just the numbers that some numbers make."""
    need_model(signature, model)
    need_numbers(model, numbers)
    return build_from(signature, model, numbers)


def has_build_form(thing):
    """Whether it has the form of a build."""
    if not isinstance(thing, list):
        return False
    for step in thing:
        if not isinstance(step, tuple) or len(step) != 2 or not is_whole(step[0]):
            return False
        if step[1] is not None and not is_cell_form(step[1]):
            return False
    return True


def is_cell_form(thing):
    """Whether it is a tuple of a text and a tuple."""
    return isinstance(thing, tuple) and len(thing) == 2 and isinstance(thing[0], str) and isinstance(thing[1], tuple)


def makes_number(signature, model, told, name, args, number):
    """Whether the cell of a name and args, all told ahead, is there and has this number."""
    many = [deed[1] for deed in signature if deed[0] == name]
    if not many or not is_row(args, many[0], model[0]) or not is_among(args, told):
        return False
    return table_of(signature, model[1], name)[place_of_row(model[0], args)] == number


def is_step(signature, model, numbers, told, step):
    """Whether a step of a build goes on from the numbers told ahead."""
    number, reason = step
    if number in told:
        return False
    if reason is None:
        return number in numbers
    return makes_number(signature, model, told, reason[0], reason[1], number)


def build_judged(signature, model, numbers, thing):
    """None of a build from some numbers, else the first that is not so."""
    need_model(signature, model)
    need_numbers(model, numbers)
    if not has_build_form(thing):
        return ("form",)
    told = []
    for i, step in enumerate(thing):
        if not is_step(signature, model, numbers, told, step):
            return ("step", i)
        told.append(step[0])
    return None if is_among(numbers, told) and has_worths(signature, model, told) else ("all",)
