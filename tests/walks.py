"""Roads and steps for tests, worked out by the words of points 29 to 30b and 62a."""

import itertools

from tests.helpers import count_parts, letters_in

VARIABLES = ("u", "v", "w", "x", "y", "z")


def put(one, by):
    if one[0] == "var":
        return by.get(one[1], one)
    return ("deed", one[1], tuple(put(part, by) for part in one[2]))


def all_paths(one):
    told = [()]
    if one[0] == "deed":
        for k, part in enumerate(one[2]):
            told += [(k,) + path for path in all_paths(part)]
    return told


def at(one, path):
    return one if not path else at(one[2][path[0]], path[1:])


def with_at(one, path, other):
    if not path:
        return other
    parts = list(one[2])
    parts[path[0]] = with_at(parts[path[0]], path[1:], other)
    return ("deed", one[1], tuple(parts))


def fitted(pattern, one, by):
    """The dict, gone on from one, by which a pattern becomes a term, or None."""
    if pattern[0] == "var":
        if by.get(pattern[1], one) != one:
            return None
        return {**by, pattern[1]: one}
    if one[:2] != pattern[:2]:
        return None
    for inner, other in zip(pattern[2], one[2]):
        by = fitted(inner, other, by)
        if by is None:
            return None
    return by


def is_term(signature, thing):
    if type(thing) is not tuple or len(thing) not in (2, 3):
        return False
    if len(thing) == 2:
        return thing[0] == "var" and thing[1] in VARIABLES
    many = [places for name, places in signature if name == thing[1]]
    return (thing[0] == "deed" and len(many) == 1 and type(thing[2]) is tuple and len(thing[2]) == many[0]
            and all(is_term(signature, part) for part in thing[2]))


def small_term(signature, thing):
    return is_term(signature, thing) and count_parts(thing) <= 60


def plain_numbers(thing):
    return type(thing) is tuple and all(type(number) is int and number >= 0 for number in thing)


def line_form(signature, line, first):
    if type(line) is not tuple or len(line) != 2 or not small_term(signature, line[0]):
        return False
    reason = line[1]
    if first:
        return reason is None
    if type(reason) is not tuple or len(reason) != 4 or type(reason[0]) is not int or reason[0] < 0:
        return False
    if type(reason[1]) is not bool or not plain_numbers(reason[2]) or type(reason[3]) is not tuple:
        return False
    return all(type(one) is tuple and len(one) == 2 and one[0] in VARIABLES and small_term(signature, one[1])
               for one in reason[3])


def comes(equations, ahead, line):
    one, (number, turned, path, pairs) = line
    if number >= len(equations) or path not in all_paths(ahead):
        return False
    sides = equations[number]
    if tuple(name for name, term in pairs) != letters_in(*sides):
        return False
    begin, end = (put(side, dict(pairs)) for side in (sides[::-1] if turned else sides))
    return at(ahead, path) == begin and with_at(ahead, path, end) == one


def judged(signature, equations, ends, thing):
    """What road_judged tells of these ends, road_wrong where there are none."""
    if type(thing) is not list or not 1 <= len(thing) <= 600:
        return ("road",)
    if not all(line_form(signature, line, k == 0) for k, line in enumerate(thing)):
        return ("road",)
    if ends and thing[0][0] != ends[0]:
        return ("begin",)
    for k in range(1, len(thing)):
        if not comes(equations, thing[k - 1][0], thing[k]):
            return ("line", k)
    return ("end",) if ends and thing[-1][0] != ends[1] else None


def all_steps(equations, one, choices, parts):
    """All steps from a term, the terms for variables that a side lacks among the choices."""
    if count_parts(one) > parts:
        return
    for path in all_paths(one):
        for number, sides in enumerate(equations):
            for turned in (False, True):
                begin, end = sides[::-1] if turned else sides
                by = fitted(begin, at(one, path), {})
                if by is None:
                    continue
                lacking = [name for name in letters_in(*sides) if name not in by]
                for row in itertools.product(choices, repeat=len(lacking)):
                    whole = {**by, **dict(zip(lacking, row))}
                    told = with_at(one, path, put(end, whole))
                    if count_parts(told) <= parts:
                        pairs = tuple((name, whole[name]) for name in letters_in(*sides))
                        yield told, (number, turned, path, pairs)


def asked_choices(equation):
    return [("var", name) for name in letters_in(*equation) or ("x",)]


def come_to(kind, equation, parts, most=500):
    """("road", how many steps), ("shut", the terms) or ("many",), level by level as 30a tells it."""
    left, right = equation
    choices = asked_choices(equation)
    met = {left}
    level = {left}
    steps = 0
    while True:
        if right in met:
            return ("road", steps)
        if len(met) > most:
            return ("many",)
        fresh = {told for one in level for told, reason in all_steps(kind[1], one, choices, parts)} - met
        if not fresh:
            return ("shut", met)
        met |= fresh
        level = fresh
        steps += 1


def some_road(chance, kind, begin, steps, parts=20, choices=None):
    """A road of at most so many steps by chance; may go back and forth."""
    choices = choices or [("var", "x"), ("var", "z")]
    road = [(begin, None)]
    for step in range(steps):
        ways = list(all_steps(kind[1], road[-1][0], choices, parts))
        if not ways:
            break
        road.append(chance.choice(ways))
    return road
