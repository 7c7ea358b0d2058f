"""Joins of models, their quotients, and chains that show that two numbers are joined."""

from deedworlds.basics import is_below, is_row, is_whole, place_of_row, rows_below
from deedworlds.errors import NoJoin, NoNumbers
from deedworlds.joinwork import Linker, all_partings, goes_with_deeds, is_join, with_arg
from deedworlds.models import need_model
from deedworlds.tablework import table_of


def need_pairs(model, pairs):
    """Refuse what is no list of tuples of two numbers of the model."""
    if not isinstance(pairs, list) or not all([is_row(pair, 2, model[0]) for pair in pairs]):
        raise NoNumbers("no list of pairs of numbers of the model")


def joined(signature, model, pairs):
    """The least join in which the two numbers of each pair lie in one lot."""
    need_model(signature, model)
    need_pairs(model, pairs)
    return Linker(signature, model, pairs).lots


def joins_of(signature, model):
    """All joins of a model that is known to be right, in the order of lists."""
    return [lots for lots in all_partings(model[0]) if goes_with_deeds(signature, model, lots)]


def joins(signature, model):
    """All joins of a model, in the order of lists."""
    need_model(signature, model)
    return joins_of(signature, model)


def lies_in(one, other):
    """Whether a join has in one lot whatever another one, the first here, has."""
    return all([other[number] == other[least] for number, least in enumerate(one)])


def covers(signature, model):
    """The places (i, j) of joins in the list of all, such that j is next above i."""
    need_model(signature, model)
    lists = joins_of(signature, model)
    told = []
    for i, one in enumerate(lists):
        above = [j for j, other in enumerate(lists) if j != i and lies_in(one, other)]
        for j in above:
            if not any([k != j and lies_in(lists[k], lists[j]) for k in above]):
                told.append((i, j))
    return told


def quotient(signature, model, join):
    """The model whose numbers stand for the lots of a join, by their least numbers."""
    need_model(signature, model)
    if not is_join(signature, model, join):
        raise NoJoin("no join of the model")
    least = sorted(set(join))
    tables = []
    for (name, places), table in zip(signature, model[1]):
        row = []
        for args in rows_below(len(least), places):
            worth = table[place_of_row(model[0], [least[arg] for arg in args])]
            row.append(least.index(join[worth]))
        tables.append(tuple(row))
    return (len(least), tuple(tables))


def need_ends(model, a, b):
    """Refuse what are no two numbers of the model."""
    if not is_row((a, b), 2, model[0]):
        raise NoNumbers("no numbers of the model")


def chain(signature, model, pairs, a, b):
    """A chain from a to b by pairs, None where they lie in unlike lots of the least join."""
    need_model(signature, model)
    need_pairs(model, pairs)
    need_ends(model, a, b)
    linker = Linker(signature, model, pairs)
    if linker.lots[a] != linker.lots[b]:
        return None
    if a == b:
        return []
    return linker.steps + [(a, b, ("way", linker.steps_along(a, b)))]


def are_whole(things):
    """Whether all are whole numbers."""
    return all([is_whole(thing) for thing in things])


def has_reason_form(thing):
    """Whether it has the form of a reason of a chain's step."""
    if not isinstance(thing, tuple) or not thing:
        return False
    if thing[0] == "pair":
        return len(thing) == 2 and is_whole(thing[1])
    if thing[0] == "deed":
        return len(thing) == 5 and isinstance(thing[1], str) and isinstance(thing[2], tuple) and are_whole(thing[3:])
    return thing[0] == "way" and len(thing) == 2 and isinstance(thing[1], list) and are_whole(thing[1])


def has_chain_form(thing):
    """Whether it has the form of a chain."""
    if not isinstance(thing, list):
        return False
    for step in thing:
        if not isinstance(step, tuple) or len(step) != 3 or not are_whole(step[:2]) or not has_reason_form(step[2]):
            return False
    return True


def led_by(step, number):
    """What a step, or the step turned about, leads to from a number, None where it doesn't begin there."""
    if number == step[0]:
        return step[1]
    return step[0] if number == step[1] else None


def leads_by_deed(signature, model, ahead, step):
    """Whether a deed of args makes the one number, and of args exchanged by a step ahead the other one."""
    one, other, (word, name, args, at, i) = step
    many = [deed[1] for deed in signature if deed[0] == name]
    if not many or not is_row(args, many[0], model[0]) or not is_below(at, many[0]) or not is_below(i, len(ahead)):
        return False
    there = led_by(ahead[i], args[at])
    if there is None:
        return False
    table = table_of(signature, model[1], name)
    return (table[place_of_row(model[0], args)] == one
            and table[place_of_row(model[0], with_arg(args, at, there))] == other)


def leads_along(ahead, one, other, numbers):
    """Whether steps ahead, by their numbers, lead from the one number to the other."""
    for i in numbers:
        one = led_by(ahead[i], one) if is_below(i, len(ahead)) else None
        if one is None:
            return False
    return one == other


def is_right_step(signature, model, pairs, ahead, step):
    """Whether a step of a chain is right behind those ahead."""
    one, other, reason = step
    if not is_row((one, other), 2, model[0]):
        return False
    if reason[0] == "pair":
        return is_below(reason[1], len(pairs)) and pairs[reason[1]] in ((one, other), (other, one))
    if reason[0] == "deed":
        return leads_by_deed(signature, model, ahead, step)
    return leads_along(ahead, one, other, reason[1])


def first_odd_step(signature, model, pairs, steps):
    """The place of the first step that isn't right, or None."""
    ahead = []
    for i, step in enumerate(steps):
        if not is_right_step(signature, model, pairs, ahead, step):
            return i
        ahead.append(step)
    return None


def chain_judged(signature, model, pairs, a, b, thing):
    """None of a chain from a to b by pairs, else the first that is not so."""
    need_model(signature, model)
    need_pairs(model, pairs)
    need_ends(model, a, b)
    if not has_chain_form(thing):
        return ("form",)
    odd = first_odd_step(signature, model, pairs, thing)
    if odd is not None:
        return ("step", odd)
    ends = thing[-1][:2] if thing else (a, a)
    return None if ends == (a, b) else ("end",)
