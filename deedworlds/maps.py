"""Models renamed by orders: least forms, own orders and orbits."""

from deedworlds.errors import NoOrder
from deedworlds.models import need_model
from deedworlds.ordering import (
    is_order, least_tables, orders_to_least, renamed_tables, renamings_many, turned_back,
)


def renamed(signature, model, order):
    """The model with its numbers called by an order."""
    need_model(signature, model)
    size, tables = model
    if not is_order(order, size):
        raise NoOrder("no order of the size")
    return (size, renamed_tables(signature, size, tables, order))


def composed(one, other):
    """The order that renames as first the one and then the other, both known to be right."""
    return tuple([other[called] for called in one])


def renamed_by(one, other):
    """The order that renames as first the one and then the other."""
    if not isinstance(one, tuple) or not is_order(one, len(one)):
        raise NoOrder("the first is no order")
    if not is_order(other, len(one)):
        raise NoOrder("the second is no order of the first one's size")
    return composed(one, other)


def least_form(signature, model):
    """The least of all renamed ones."""
    need_model(signature, model)
    size, tables = model
    return (size, least_tables(signature, size, tables))


def own_orders_of(signature, model):
    """The orders that lead a model, known to be right, to itself, in the order of tuples."""
    orders = orders_to_least(signature, model[0], model[1])
    back = turned_back(orders[0])
    return sorted([composed(order, back) for order in orders])


def own_orders(signature, model):
    """The orders that lead a model to itself, in the order of tuples."""
    need_model(signature, model)
    return own_orders_of(signature, model)


def renamings(signature, model):
    """How many different models all orders make of one."""
    need_model(signature, model)
    return renamings_many(signature, model[0], model[1])


def orbits(signature, model):
    """The numbers in lists, two in one just where an own order leads the one to the other."""
    need_model(signature, model)
    orders = own_orders_of(signature, model)
    told = []
    for number in range(model[0]):
        orbit = sorted(set([order[number] for order in orders]))
        if orbit[0] == number:
            told.append(orbit)
    return told
