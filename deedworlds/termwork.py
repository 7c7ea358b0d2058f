"""Work on terms that are known to be right: nothing is looked at or refused here."""


def parts_many(term):
    """How many parts a term has."""
    many = 0
    todo = [term]
    while todo:
        part = todo.pop()
        many += 1
        if part[0] == "deed":
            todo.extend(part[2])
    return many


def variables_met(term):
    """The variables of a term, each once, as they first come in the order of places."""
    met = []
    todo = [term]
    while todo:
        part = todo.pop()
        if part[0] == "deed":
            todo.extend(part[2][::-1])
        elif part[1] not in met:
            met.append(part[1])
    return met


def variables_of(terms):
    """The variables of some terms together, in the order u to z."""
    met = []
    for term in terms:
        met.extend(variables_met(term))
    return tuple(sorted(set(met)))


def part_at(term, path):
    """The part at a path of the term."""
    for number in path:
        term = term[2][number]
    return term


def with_part(term, path, other):
    """The term with another one at a path of it."""
    above = []
    for number in path:
        above.append(term)
        term = term[2][number]
    told = other
    for number, upper in zip(path[::-1], above[::-1]):
        told = ("deed", upper[1], upper[2][:number] + (told,) + upper[2][number + 1:])
    return told


def exchanged(term, putting):
    """The term with the variables of a putting exchanged for its terms, all at once."""
    if term[0] == "var":
        return putting.get(term[1], term)
    terms = []
    for part in term[2]:
        terms.append(exchanged(part, putting))
    return ("deed", term[1], tuple(terms))


def grown_many(term, grown_by):
    """How many parts a term would have, its variables exchanged for terms of so many parts."""
    many = 0
    todo = [term]
    while todo:
        part = todo.pop()
        if part[0] == "deed":
            many += 1
            todo.extend(part[2])
        else:
            many += grown_by.get(part[1], 1)
    return many


def exchanged_many(term, putting):
    """How many parts the exchanged term would have, told without making it."""
    return grown_many(term, {name: parts_many(putting[name]) for name in putting})


def fitting(pattern, term):
    """The putting of the pattern's variables that makes the term of it, or None."""
    putting = {}
    todo = [(pattern, term)]
    while todo:
        one, other = todo.pop()
        if one[0] == "var":
            if putting.setdefault(one[1], other) != other:
                return None
        elif other[0] == "var" or one[1] != other[1]:
            return None
        else:
            todo.extend(list(zip(one[2], other[2])))
    return putting


def paths_of(term):
    """The paths of a term, in the order of places."""
    paths = []
    todo = [((), term)]
    while todo:
        path, part = todo.pop()
        paths.append(path)
        if part[0] == "deed":
            for k in reversed(range(len(part[2]))):
                todo.append((path + (k,), part[2][k]))
    return paths


def text_of(term):
    """The text of a term."""
    if term[0] == "var":
        return term[1]
    if not term[2]:
        return term[1]
    texts = []
    for part in term[2]:
        texts.append(text_of(part))
    inside = ", ".join(texts)
    return f"{term[1]}({inside})"
