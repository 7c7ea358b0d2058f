"""Models as texts, told and read."""

from deedworlds.basics import power
from deedworlds.errors import NoText
from deedworlds.linereader import LineReader
from deedworlds.models import need_model
from deedworlds.tablework import text_of_model
from deedworlds.terms import MOST_SIZE, need_signature


def model_text(signature, model):
    """The text of a model."""
    need_model(signature, model)
    return text_of_model(signature, model[0], model[1])


def figures(numbers):
    """The figures of some numbers, each of one sign, in one text."""
    return "".join([str(number) for number in numbers])


def read_size_line(line):
    """The size that a model's first line tells."""
    line.take("MODEL ")
    size = int(line.take_one_of(figures(list(range(1, MOST_SIZE + 1)))))
    line.finish()
    return size


def read_table_line(line, deed, size):
    """The table that the line of a deed writes."""
    name, places = deed
    line.take(f"{name} ")
    numbers = figures(list(range(size)))
    table = []
    for at in range(power(size, places)):
        if at > 0:
            line.take(", " if at % size == 0 else " ")
        table.append(int(line.take_one_of(numbers)))
    line.finish()
    return tuple(table)


def read_model(signature, text):
    """The model of the signature that a text writes."""
    need_signature(signature)
    lines = text.split("\n")
    size = read_size_line(LineReader(0, lines[0]))
    tables = []
    for deed, line in zip(signature, lines[1:]):
        tables.append(read_table_line(LineReader(len(tables) + 1, line), deed, size))
    if len(lines) != len(signature) + 1:
        raise NoText(min(len(lines), len(signature) + 1), 0)
    return (size, tuple(tables))
