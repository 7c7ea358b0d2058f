"""The plain tree of a kind and a size: told, counted, and handed out as a search."""

from deedworlds.errors import TooMany
from deedworlds.ground import Ground
from deedworlds.models import need_size
from deedworlds.terms import need_kind

MOST_NODES = 1000


class PlainTree:
    """The plain tree while it is made, with how many nodes it has of each kind."""

    def __init__(self, kind, size):
        self.size = size
        self.ground = Ground(kind, size)
        self.fresh_count = 0
        self.broken_count = 0
        self.model_count = 0

    def look_at_many(self):
        """Refuse a tree with too many nodes."""
        if self.fresh_count + self.broken_count + self.model_count > MOST_NODES:
            raise TooMany("the plain tree has too many nodes")

    def tree_at(self, at, top):
        """The tree where the cells ahead of this place in order are known, and top is the greatest used number."""
        ground = self.ground
        if ground.broken:
            self.broken_count += 1
            self.look_at_many()
            number, worths = ground.first_broken_worths()
            return ("broken", number, worths)
        if at == len(ground.cells):
            self.model_count += 1
            self.look_at_many()
            return ("model", ground.known_tables())
        self.fresh_count += 1
        self.look_at_many()
        name, args = ground.cells[at]
        used = max((top,) + args)
        trees = []
        for number in range(min(used + 2, self.size)):
            ground.make_known(self.size + at, number)
            trees.append(self.tree_at(at + 1, max(used, number)))
            ground.take_back()
        return ("fresh", name, args, trees)


def plain(kind, size):
    """The plain tree of a kind and a size."""
    need_kind(kind)
    need_size(size)
    return PlainTree(kind, size).tree_at(0, -1)


def nodes(kind, size):
    """How many nodes the plain tree has: fresh ones, broken ones, models."""
    need_kind(kind)
    need_size(size)
    plain_tree = PlainTree(kind, size)
    plain_tree.tree_at(0, -1)
    return (plain_tree.fresh_count, plain_tree.broken_count, plain_tree.model_count)


def search(kind, size):
    """A search paper of the kind and the size: the plain tree, as how short it is isn't asked."""
    return plain(kind, size)
