"""Search papers grown: what "fresh" leaves out is told by exchanged numbers, with "cell" alone."""

from deedworlds.errors import TooMany
from deedworlds.ordering import renamed_tables
from deedworlds.search import need_search
from deedworlds.searchwork import numbers_of_trees, used_behind

MOST_GROWN = 20000


def grown_many(size, tree, used):
    """How many places the grown tree has."""
    if tree[0] in ("broken", "model"):
        return 1
    word, name, args, trees = tree
    numbers, lacking = numbers_of_trees(word, size, used, args)
    many = 1
    last = 0
    for number, below in zip(numbers, trees):
        last = grown_many(size, below, used_behind(used, args, number))
        many += last
    return many + last * len(lacking)


def exchange_first(order, one, other):
    """The order that exchanges two numbers and then renames as this one does."""
    told = list(order)
    told[one], told[other] = order[other], order[one]
    return tuple(told)


def called_by(order, numbers):
    """The numbers, called by an order."""
    return tuple([order[number] for number in numbers])


def grown_by(signature, tree, used, order):
    """The grown tree with all its numbers called by an order."""
    if tree[0] == "broken":
        return ("broken", tree[1], called_by(order, tree[2]))
    size = len(order)
    if tree[0] == "model":
        return ("model", renamed_tables(signature, size, tree[1], order))
    word, name, args, trees = tree
    numbers, lacking = numbers_of_trees(word, size, used, args)
    told = [None] * size
    for number, below in zip(numbers, trees):
        told[order[number]] = grown_by(signature, below, used_behind(used, args, number), order)
    # where numbers are lacking, the last tree is that of the least one that wasn't used
    free = numbers[-1]
    behind = used_behind(used, args, free)
    for number in lacking:
        told[order[number]] = grown_by(signature, trees[-1], behind, exchange_first(order, free, number))
    return ("cell", name, called_by(order, args), told)


def grown(kind, size, paper):
    """The search paper without "fresh" that shows all models by all their names."""
    need_search(kind, size, paper)
    if grown_many(size, paper, ()) > MOST_GROWN:
        raise TooMany("too many places")
    return grown_by(kind[0], paper, (), tuple(range(size)))
