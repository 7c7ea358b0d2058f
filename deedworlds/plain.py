"""The plain tree of a kind and a size: told, counted, and handed out as a search."""

from deedworlds.errors import TooMany
from deedworlds.ground import Ground
from deedworlds.models import need_size
from deedworlds.terms import need_kind

MOST_NODES = 1000


class PlainTree:
    """The plain tree while it is made, with how many nodes it has of each kind."""

    def __init__(self, kind, size):
        self.size = size
        self.ground = Ground(kind, size)
        self.counts = {"fresh": 0, "broken": 0, "model": 0}

    def add_node(self, word):
        """Count one more node; refuse a tree with too many."""
        self.counts[word] += 1
        if sum(list(self.counts.values())) > MOST_NODES:
            raise TooMany("the plain tree has too many nodes")

    def tree_at(self, at, top):
        """The tree where the cells ahead of this place in order are known, and top is the greatest used number."""
        ground = self.ground
        if ground.broken:
            self.add_node("broken")
            number, worths = ground.first_broken_worths()
            return ("broken", number, worths)
        if at == len(ground.cells):
            self.add_node("model")
            return ("model", ground.known_tables())
        self.add_node("fresh")
        name, args = ground.cells[at]
        cell = ground.cell_number(name, args)
        used = max((top,) + args)
        trees = []
        for number in range(min(used + 2, self.size)):
            ground.make_known(cell, number)
            trees.append(self.tree_at(at + 1, max(used, number)))
            ground.take_back()
        return ("fresh", name, args, trees)


def plain(kind, size):
    """The plain tree of a kind and a size."""
    need_kind(kind)
    need_size(size)
    return PlainTree(kind, size).tree_at(0, -1)


def nodes(kind, size):
    """How many nodes the plain tree has: fresh ones, broken ones, models."""
    need_kind(kind)
    need_size(size)
    plain_tree = PlainTree(kind, size)
    plain_tree.tree_at(0, -1)
    counts = plain_tree.counts
    return (counts["fresh"], counts["broken"], counts["model"])


def search(kind, size):
    """A search paper of the kind and the size: the plain tree, as how short it is isn't asked."""
    return plain(kind, size)
