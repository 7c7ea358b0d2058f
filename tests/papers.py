"""Search papers for tests: such made by chance, and a judge that goes by the words of points 18 to 20."""

import itertools

from tests.helpers import letters_in


def cells_by_words(signature, size):
    """All cells in order, by a key."""
    told = []
    for k, (name, places) in enumerate(signature):
        for args in itertools.product(range(size), repeat=places):
            told.append((max(args) if args else -1, k, args, name))
    return [(name, args) for top, k, args, name in sorted(told)]


def worth_known(known, term, by):
    """What a term has for a worth, None where a cell isn't known."""
    if term[0] == "var":
        return by[term[1]]
    args = tuple(worth_known(known, part, by) for part in term[2])
    return None if None in args else known.get((term[1], args))


def is_broken(known, equation, worths):
    by = dict(zip(letters_in(*equation), worths))
    left, right = (worth_known(known, side, by) for side in equation)
    return left is not None and right is not None and left != right


def all_broken(kind, size, known):
    """All equations and worths that are broken, in order."""
    for i, equation in enumerate(kind[1]):
        for worths in itertools.product(range(size), repeat=len(letters_in(*equation))):
            if is_broken(known, equation, worths):
                yield i, worths


def tables_known(signature, size, known):
    return tuple(tuple(known.get((name, args)) for args in itertools.product(range(size), repeat=places))
                 for name, places in signature)


def used_numbers(known, args):
    told = set(args)
    for (name, others), worth in known.items():
        told |= set(others) | {worth}
    return sorted(told)


def numbers_for(word, size, known, args):
    """The numbers for which a place has trees."""
    if word == "cell":
        return list(range(size))
    used = used_numbers(known, args)
    return used + [number for number in range(size) if number not in used][:1]


def plain_row(thing, many, size):
    return (type(thing) is tuple and len(thing) == many
            and all(type(number) is int and 0 <= number < size for number in thing))


def has_form(tree):
    if type(tree) is not tuple or len(tree) == 0:
        return False
    if tree[0] in ("cell", "fresh"):
        return (len(tree) == 4 and type(tree[1]) is str and type(tree[2]) is tuple and type(tree[3]) is list
                and all(has_form(below) for below in tree[3]))
    if tree[0] == "broken":
        return len(tree) == 3 and type(tree[1]) is int and type(tree[2]) is tuple
    return tree[0] == "model" and len(tree) == 2 and type(tree[1]) is tuple


def odd_places(kind, size, tree, known, path=()):
    """All places that aren't right, below right ones alone."""
    signature, equations = kind
    if tree[0] == "broken":
        right = 0 <= tree[1] < len(equations)
        right = right and plain_row(tree[2], len(letters_in(*equations[tree[1]])), size)
        if not right or not is_broken(known, equations[tree[1]], tree[2]):
            yield path
    elif tree[0] == "model":
        tables = tables_known(signature, size, known)
        whole = len(known) == len(cells_by_words(signature, size))
        if not whole or repr(tree[1]) != repr(tables) or any(True for one in all_broken(kind, size, known)):
            yield path
    else:
        word, name, args, trees = tree
        many = [places for one, places in signature if one == name]
        if not many or not plain_row(args, many[0], size) or (name, args) in known:
            yield path
            return
        numbers = numbers_for(word, size, known, args)
        if len(numbers) != len(trees):
            yield path
            return
        for k, number in enumerate(numbers):
            yield from odd_places(kind, size, trees[k], {**known, (name, args): number}, path + (k,))


def judged_by_words(kind, size, paper):
    if not has_form(paper):
        return ("paper",)
    path = min(odd_places(kind, size, paper, {}), default=None)
    return None if path is None else ("tree", path)


def plain_by_words(kind, size, known=None):
    """The plain tree, place by place as point 23 tells it."""
    known = known or {}
    for i, worths in all_broken(kind, size, known):
        return ("broken", i, worths)
    for name, args in cells_by_words(kind[0], size):
        if (name, args) not in known:
            trees = [plain_by_words(kind, size, {**known, (name, args): number})
                     for number in numbers_for("fresh", size, known, args)]
            return ("fresh", name, args, trees)
    return ("model", tables_known(kind[0], size, known))


def some_paper(chance, kind, size, words=("cell", "fresh"), early=0.7, known=None):
    """A right paper by chance: cells in any order, either word, equations broken early or late."""
    known = known or {}
    broken = list(all_broken(kind, size, known))
    left = [cell for cell in cells_by_words(kind[0], size) if cell not in known]
    if broken and (not left or chance.random() < early):
        return ("broken",) + chance.choice(broken)
    if not left:
        return ("model", tables_known(kind[0], size, known))
    name, args = chance.choice(left)
    word = chance.choice(words)
    trees = [some_paper(chance, kind, size, words, early, {**known, (name, args): number})
             for number in numbers_for(word, size, known, args)]
    return (word, name, args, trees)


def places_in(tree):
    """How many places a paper has."""
    return 1 if tree[0] in ("broken", "model") else 1 + sum(places_in(below) for below in tree[3])


def trees_in(tree, path=()):
    """All trees of a paper with their paths, in order."""
    yield path, tree
    if tree[0] in ("cell", "fresh"):
        for k, below in enumerate(tree[3]):
            yield from trees_in(below, path + (k,))


def with_tree(paper, path, other):
    """The paper, told anew, with another thing at a path."""
    if not path:
        return other
    word, name, args, trees = paper
    return (word, name, args, [with_tree(below, path[1:], other) if k == path[0] else below
                               for k, below in enumerate(trees)])
