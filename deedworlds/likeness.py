"""Models told as alike, by a map, or as unlike, by a closed tree; and such papers judged."""

from deedworlds.basics import is_row, place_of_row, rows_below
from deedworlds.models import need_two_models
from deedworlds.ordering import is_order, renamed_tables
from deedworlds.tablework import table_of


def clashes(signature, one, other, images, name, numbers):
    """Whether a deed of numbers that have images shows that these lead nowhere."""
    size = one[0]
    worth = table_of(signature, one[1], name)[place_of_row(size, numbers)]
    called = [images[number] for number in numbers]
    there = table_of(signature, other[1], name)[place_of_row(size, called)]
    if worth < len(images):
        return images[worth] != there
    return there in images


def first_clash(signature, one, other, images):
    """A clash for these images of the first numbers, or None."""
    for name, places in signature:
        for numbers in rows_below(len(images), places):
            if clashes(signature, one, other, images, name, numbers):
                return ("clash", name, numbers)
    return None


def led_from(signature, one, other, images):
    """A map that goes on from these images of the first numbers, or a tree that there is none."""
    clash = first_clash(signature, one, other, images)
    if clash is not None:
        return ("none", clash)
    if len(images) == one[0]:
        return ("map", images)
    trees = []
    for number in range(one[0]):
        if number not in images:
            told = led_from(signature, one, other, images + (number,))
            if told[0] == "map":
                return told
            trees.append(told[1])
    return ("none", ("case", trees))


def likeness(signature, one, other):
    """A map from the one to the other, or unlike sizes, or a tree that there is no map."""
    need_two_models(signature, one, other)
    if one[0] != other[0]:
        return ("size",)
    return led_from(signature, one, other, ())


def has_paper_form(paper):
    """Whether it has the word and the length of a paper, whatever stands in it."""
    if not isinstance(paper, tuple):
        return False
    if len(paper) == 1:
        return paper[0] == "size"
    return len(paper) == 2 and paper[0] in ("map", "none")


def is_case(size, images, tree):
    """Whether a right case stands here, whatever its trees are."""
    if not isinstance(tree, tuple) or len(tree) != 2 or tree[0] != "case":
        return False
    left = size - len(images)
    return left > 0 and isinstance(tree[1], list) and len(tree[1]) == left


def is_clash(signature, one, other, images, tree):
    """Whether a right clash stands here."""
    if not isinstance(tree, tuple) or len(tree) != 3 or tree[0] != "clash":
        return False
    name, numbers = tree[1], tree[2]
    many = [deed[1] for deed in signature if deed[0] == name]
    if not many or not is_row(numbers, many[0], len(images)):
        return False
    return clashes(signature, one, other, images, name, numbers)


def first_odd_place(signature, one, other, tree):
    """The path of the first place at which the tree isn't right, or None."""
    todo = [((), (), tree)]
    while todo:
        path, images, here = todo.pop()
        if is_case(one[0], images, here):
            left = [number for number in range(one[0]) if number not in images]
            for k in reversed(range(len(left))):
                todo.append((path + (k,), images + (left[k],), here[1][k]))
        elif not is_clash(signature, one, other, images, here):
            return path
    return None


def leads_there(signature, one, other, order):
    """Whether it is an order that makes the other model of the one."""
    return is_order(order, one[0]) and renamed_tables(signature, one[0], one[1], order) == other[1]


def likeness_judged(signature, one, other, paper):
    """None of a right paper on two models, else the first that is not so."""
    need_two_models(signature, one, other)
    if not has_paper_form(paper):
        return ("paper",)
    if (one[0] == other[0]) == (paper[0] == "size"):
        return ("size",)
    if paper[0] == "map" and not leads_there(signature, one, other, paper[1]):
        return ("map",)
    if paper[0] == "none":
        path = first_odd_place(signature, one, other, paper[1])
        return None if path is None else ("tree", path)
    return None
