"""All models of a kind and a size, each once up to likeness, and counted."""

from deedworlds.basics import is_below
from deedworlds.errors import NoModel, NoNumber, TooMany
from deedworlds.models import first_unkept, model_wrong, need_size
from deedworlds.ordering import least_of_all, least_tables, renamings_many
from deedworlds.plain import plain
from deedworlds.searchwork import model_leaves
from deedworlds.terms import MOST_SIZE, need_kind


def all_tables(kind, size):
    """The tables of the least forms of all models, in the order of tuples."""
    return least_of_all(kind[0], size, model_leaves(plain(kind, size)))


def all_models(kind, size):
    """The least forms of all models of a kind and a size, in the order of tuples."""
    need_kind(kind)
    return [(size, tables) for tables in all_tables(kind, size)]


def how_many(kind, size):
    """How many models of a kind and a size there are, alike ones counted once."""
    need_kind(kind)
    return len(all_tables(kind, size))


def all_told(kind, size):
    """How many models of a kind and a size there are, alike ones too."""
    need_kind(kind)
    return sum([renamings_many(kind[0], size, tables) for tables in all_tables(kind, size)])


def model_of(kind, size, k):
    """The k-th of all models."""
    models = all_models(kind, size)
    if not is_below(k, len(models)):
        raise NoNumber("no model has this number")
    return models[k]


def number_of(kind, size, model):
    """The number of the one of all models that a model is alike to."""
    models = all_models(kind, size)
    if model_wrong(kind[0], model) is not None or model[0] != size or first_unkept(kind, model) is not None:
        raise NoModel("no model of the kind and the size")
    return models.index((size, least_tables(kind[0], size, model[1])))


def many_or_none(kind, size):
    """How many models there are, None where the plain tree has too many nodes."""
    try:
        return how_many(kind, size)
    except TooMany:
        return None


def spectrum(kind, *, most=MOST_SIZE):
    """For each size up to the most, how many models there are, None where that is refused."""
    need_kind(kind)
    need_size(most)
    return [many_or_none(kind, size) for size in range(1, most + 1)]
