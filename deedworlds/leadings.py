"""Leadings of a kind to another one: a reading, and a road of each equation as read; and roads led over by them."""

from deedworlds.errors import NoLeading, NoPaper, TooBig, TooMany
from deedworlds.readings import parts_read, read_by, reading_by_names, reading_wrong, small_read_by
from deedworlds.roads import MOST_LINES, judged_by_steps, road_judged, with_letters
from deedworlds.terms import MOST_PARTS, VARIABLES, need_kind
from deedworlds.termwork import exchanged, grown_many, part_at, parts_many, paths_of, variables_of, with_part


def equation_read(by_names, equation):
    """The sides of an equation as read, None where one has too many parts."""
    try:
        return (small_read_by(by_names, equation[0]), small_read_by(by_names, equation[1]))
    except TooBig:
        return None


def roads_wrong(other, equations, thing):
    """What isn't right of the roads of a leading, of the equations as read, or None."""
    if not isinstance(thing, list) or len(thing) != len(equations):
        return ("roads",)
    places, steps = dict(other[0]), with_letters(other[1])
    for k, (left, right) in enumerate(equations):
        wrong = judged_by_steps(places, steps, left, right, thing[k])
        if wrong is not None:
            return ("road", k, wrong)
    return None


def leading_wrong(kind, other, thing):
    """None of a leading of a kind to another one, else the first that is not so."""
    need_kind(kind)
    need_kind(other)
    if not isinstance(thing, tuple) or len(thing) != 2:
        return ("leading",)
    wrong = reading_wrong(kind[0], other[0], thing[0])
    if wrong is not None:
        return ("reading", wrong)
    by_names = reading_by_names(kind[0], thing[0])
    equations = [equation_read(by_names, equation) for equation in kind[1]]
    if None in equations:
        return ("big", equations.index(None))
    return roads_wrong(other, equations, thing[1])


def need_leading(kind, other, leading):
    """Refuse what are no kinds, then what is no leading of the one to the other."""
    wrong = leading_wrong(kind, other, leading)
    if wrong is not None:
        raise NoLeading(wrong)


def standings(term, letter):
    """The paths of a term at which a variable stands, in order."""
    return [path for path in paths_of(term) if part_at(term, path) == ("var", letter)]


def copies_many(by_names, term, path):
    """How many copies of a place of a term there are in the term as read."""
    many = 1
    for number in path:
        many *= len(standings(by_names[term[1]], VARIABLES[number]))
        term = term[2][number]
    return many


def copies_of(by_names, term, path):
    """The paths of all copies of a place of a term in the term as read, in order."""
    copies = [()]
    for number in path:
        further = standings(by_names[term[1]], VARIABLES[number])
        copies = [copy + behind for copy in copies for behind in further]
        term = term[2][number]
    return copies


def lines_many(by_names, roads, road):
    """How many lines a road has when it is led over."""
    many = 1
    for at in range(1, len(road)):
        number, turned, path, put = road[at][1]
        many += copies_many(by_names, road[at - 1][0], path) * (len(roads[number]) - 1)
    return many


def small_putting(by_names, put, lines):
    """The terms put in a step as read, of those variables that the lines have; refused where one is too big."""
    wanted = variables_of([line[0] for line in lines])
    putting = {}
    for name, term in put:
        if name in wanted:
            if parts_read(by_names, term) > MOST_PARTS:
                raise TooBig("a term as read has too many parts")
            putting[name] = read_by(by_names, term)
    return putting


def steps_along(lines, turned):
    """Each step of a road, or of the road turned about: the term that it leads to, and its reason."""
    if not turned:
        return lines[1:]
    told = []
    for at in range(len(lines) - 1, 0, -1):
        number, other_way, path, put = lines[at][1]
        told.append((lines[at - 1][0], (number, not other_way, path, put)))
    return told


def step_placed(term, copy, putting, step):
    """The line that a step makes behind a term, put in, at a copy; refused where it is too big."""
    inner, (number, turned, path, put) = step
    around = parts_many(term) - parts_many(part_at(term, copy))
    grown_by = {name: parts_many(putting[name]) for name in putting}
    if around + grown_many(inner, grown_by) > MOST_PARTS:
        raise TooBig("a term has too many parts")
    put_in = tuple([(name, exchanged(one, putting)) for name, one in put])
    return (with_part(term, copy, exchanged(inner, putting)), (number, turned, copy + path, put_in))


def lines_led(by_names, roads, road):
    """The lines of a road when it is led over; refused where a term is too big."""
    lines = [(small_read_by(by_names, road[0][0]), None)]
    for at in range(1, len(road)):
        number, turned, path, put = road[at][1]
        steps = steps_along(roads[number], turned)
        copies = copies_of(by_names, road[at - 1][0], path)
        if copies:
            putting = small_putting(by_names, put, roads[number])
            for copy in copies:
                for step in steps:
                    lines.append(step_placed(lines[-1][0], copy, putting, step))
    return lines


def led_by(kind, leading, road):
    """The road that a road becomes by a leading, of what is known to be right."""
    by_names = reading_by_names(kind[0], leading[0])
    if lines_many(by_names, leading[1], road) > MOST_LINES:
        raise TooMany("too many lines")
    return lines_led(by_names, leading[1], road)


def led_road(kind, other, leading, equation, road):
    """A road of an equation as read by the other kind, of one by the first kind."""
    need_leading(kind, other, leading)
    wrong = road_judged(kind, equation, road)
    if wrong is not None:
        raise NoPaper(wrong)
    return led_by(kind, leading, road)
