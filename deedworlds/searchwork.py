"""Search papers that are known to be right, gone through place by place."""


def numbers_of_trees(word, size, used, args):
    """The numbers for which a place has trees, in order, and behind them those for which it has none."""
    if word == "cell":
        return list(range(size)), []
    here = sorted(set(list(used) + list(args)))
    free = [number for number in range(size) if number not in here]
    return here + free[:1], free[1:]


def used_behind(used, args, worth):
    """The numbers that are used behind a cell that is known by a worth."""
    return tuple(sorted(set(list(used) + list(args) + [worth])))


def model_leaves(paper):
    """The tables at the leaves "model", in the order of the leaves."""
    told = []
    todo = [paper]
    while todo:
        tree = todo.pop()
        if tree[0] == "model":
            told.append(tree[1])
        elif tree[0] != "broken":
            todo.extend(tree[3][::-1])
    return told
