"""Cells, and search papers: judged, and what they show."""

from deedworlds.basics import is_row, is_whole
from deedworlds.errors import NoSearch
from deedworlds.ground import Ground, cells_in_order
from deedworlds.models import model_wrong, need_size
from deedworlds.ordering import least_of_all
from deedworlds.searchwork import model_leaves, numbers_of_trees, used_behind
from deedworlds.terms import need_kind, need_signature


def cells_of(signature, size):
    """All cells of a signature and a size, in order."""
    need_signature(signature)
    need_size(size)
    return cells_in_order(signature, size)


def has_tree_form(tree):
    """Whether it has the word, the length and the things of a tree, whatever its trees are."""
    if not isinstance(tree, tuple) or not tree:
        return False
    if tree[0] in ("cell", "fresh"):
        return (len(tree) == 4 and isinstance(tree[1], str) and isinstance(tree[2], tuple)
                and isinstance(tree[3], list))
    if tree[0] == "broken":
        return len(tree) == 3 and is_whole(tree[1]) and isinstance(tree[2], tuple)
    return tree[0] == "model" and len(tree) == 2 and isinstance(tree[1], tuple)


def has_search_form(paper):
    """Whether it is a tree all of whose trees have a tree's form."""
    todo = [paper]
    while todo:
        tree = todo.pop()
        if not has_tree_form(tree):
            return False
        if tree[0] in ("cell", "fresh"):
            todo.extend(tree[3])
    return True


class SearchJudge:
    """Goes through a paper that has a search paper's form, with the cells known on the way."""

    def __init__(self, kind, size):
        self.kind_asked = kind
        self.size = size
        self.ground = Ground(kind, size)
        self.way = []

    def first_odd_place(self, tree, used):
        """The path of the first place at which no right tree stands, or None."""
        if tree[0] == "broken":
            return None if self.is_right_broken(tree) else tuple(self.way)
        if tree[0] == "model":
            return None if self.is_right_model(tree) else tuple(self.way)
        word, name, args, trees = tree
        if not self.is_unknown_cell(name, args):
            return tuple(self.way)
        numbers = numbers_of_trees(word, self.size, used, args)[0]
        if len(trees) != len(numbers):
            return tuple(self.way)
        cell = self.ground.cell_number(name, args)
        for k, number in enumerate(numbers):
            self.way.append(k)
            self.ground.make_known(cell, number)
            odd = self.first_odd_place(trees[k], used_behind(used, args, number))
            if odd is not None:
                return odd
            self.ground.take_back()
            self.way.pop()
        return None

    def is_unknown_cell(self, name, args):
        """Whether these are a deed and arguments of it whose cell isn't known yet."""
        many = [deed[1] for deed in self.kind_asked[0] if deed[0] == name]
        if not many or not is_row(args, many[0], self.size):
            return False
        return self.ground.worths[self.ground.cell_number(name, args)] < 0

    def is_right_broken(self, tree):
        """Whether the equation is broken under the worths."""
        number, worths = tree[1], tree[2]
        if not 0 <= number < len(self.ground.sides):
            return False
        letters_many = len(self.ground.sides[number][2][0])
        return is_row(worths, letters_many, self.size) and self.ground.is_broken_under(number, worths)

    def is_right_model(self, tree):
        """Whether all cells are known, by these tables, and nothing is broken."""
        if self.ground.broken or model_wrong(self.kind_asked[0], (self.size, tree[1])) is not None:
            return False
        # a cell that isn't known stands there by -1, so no model's tables are the same then
        return tree[1] == self.ground.known_tables()


def search_judged(kind, size, paper):
    """None of a search paper of the kind and the size, else the first that is not so."""
    need_kind(kind)
    need_size(size)
    if not has_search_form(paper):
        return ("paper",)
    path = SearchJudge(kind, size).first_odd_place(paper, ())
    return None if path is None else ("tree", path)


def need_search(kind, size, paper):
    """Refuse what is no kind, no size, then what is no search paper of them."""
    wrong = search_judged(kind, size, paper)
    if wrong is not None:
        raise NoSearch(wrong)


def leaves(kind, size, paper):
    """The models at the leaves of a search paper, in their order."""
    need_search(kind, size, paper)
    return [(size, tables) for tables in model_leaves(paper)]


def shown(kind, size, paper):
    """The least forms of the models at the leaves, each once, in the order of tuples."""
    need_search(kind, size, paper)
    return [(size, tables) for tables in least_of_all(kind[0], size, model_leaves(paper))]
