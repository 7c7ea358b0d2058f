"""Leads from one model to another, products with their sides, and what a lead's image is."""

from deedworlds.basics import is_row, place_of_row, rows_below
from deedworlds.errors import NoLead, TooMany
from deedworlds.ground import cells_in_order
from deedworlds.models import need_two_models
from deedworlds.tablework import cells_with_worths, table_of
from deedworlds.terms import MOST_SIZE


def cells_by_greatest(signature, one, other):
    """For each number of the one model, its cells of this as the greatest number, with the other one's tables."""
    told = [[] for number in range(one[0])]
    for name, args, worth in cells_with_worths(signature, one):
        told[max(args + (worth,))].append((args, worth, table_of(signature, other[1], name)))
    return told


def leads_on(cells, size, images):
    """Whether all these cells lead to what their images make, in a model of this size."""
    for args, worth, table in cells:
        if images[worth] != table[place_of_row(size, [images[arg] for arg in args])]:
            return False
    return True


def leads(signature, one, other):
    """All leads from one model to another, in the order of lists."""
    need_two_models(signature, one, other)
    size = other[0]
    begins = [[]]
    for cells in cells_by_greatest(signature, one, other):
        longer = [images + [number] for images in begins for number in range(size)]
        begins = [images for images in longer if leads_on(cells, size, images)]
    return begins


def has_lead_form(one, other, thing):
    """Whether it is a list of a number of the other model for each of the one."""
    return isinstance(thing, list) and is_row(tuple(thing), one[0], other[0])


def first_odd_cell(signature, one, other, images):
    """The first cell in order whose worth doesn't lead to what the images of its args make, or None."""
    for name, args in cells_in_order(signature, one[0]):
        worth = table_of(signature, one[1], name)[place_of_row(one[0], args)]
        if not leads_on([(args, worth, table_of(signature, other[1], name))], other[0], images):
            return (name, args)
    return None


def lead_wrong(signature, one, other, thing):
    """What lead_judged tells, of models that are known to be right."""
    if not has_lead_form(one, other, thing):
        return ("form",)
    odd = first_odd_cell(signature, one, other, thing)
    return None if odd is None else ("cell", odd[0], odd[1])


def lead_judged(signature, one, other, thing):
    """None of a lead from one model to another, else the first that is not so."""
    need_two_models(signature, one, other)
    return lead_wrong(signature, one, other, thing)


def need_product(signature, one, other):
    """Refuse what are no two models, then those whose product is too great."""
    need_two_models(signature, one, other)
    if one[0] * other[0] > MOST_SIZE:
        raise TooMany("the product would be too great")


def product_table(one, other, places, first, second):
    """The table of a deed in the product, of its tables in both models, of these sizes."""
    told = []
    for args in rows_below(one * other, places):
        left = first[place_of_row(one, [arg // other for arg in args])]
        right = second[place_of_row(other, [arg % other for arg in args])]
        told.append(left * other + right)
    return tuple(told)


def product(signature, one, other):
    """The model of the pairs of numbers of two models, deeds done on both."""
    need_product(signature, one, other)
    tables = []
    for (name, places), first, second in zip(signature, one[1], other[1]):
        tables.append(product_table(one[0], other[0], places, first, second))
    return (one[0] * other[0], tuple(tables))


def sides(signature, one, other):
    """The two leads from the product to its two models."""
    need_product(signature, one, other)
    pairs = [divmod(number, other[0]) for number in range(one[0] * other[0])]
    return ([pair[0] for pair in pairs], [pair[1] for pair in pairs])


def image(signature, one, other, lead):
    """The join, the closed list and the order by which a lead is a quotient, a likeness and a part."""
    need_two_models(signature, one, other)
    if lead_wrong(signature, one, other, lead) is not None:
        raise NoLead("no lead from the one to the other")
    join = [lead.index(called) for called in lead]
    closed = sorted(set(lead))
    onto = [closed.index(lead[number]) for number in sorted(set(join))]
    return (join, closed, tuple(onto))
