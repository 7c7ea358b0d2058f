"""Things told anew: all their lists and dicts new ones."""


def things_in(thing):
    """The things that stand in a tuple, list or dict, in order."""
    return list(thing.values()) if isinstance(thing, dict) else list(thing)


def made_anew(thing, inner):
    """A tuple, list or dict of the kind of a thing, with the things in it exchanged for others."""
    if isinstance(thing, tuple):
        return tuple(inner)
    if isinstance(thing, list):
        return inner
    return {key: one for key, one in zip(thing, inner)}


def own_copy(thing):
    """A thing with all its lists and dicts new ones.

    It goes without calls of its own, as papers may lie deep within one another."""
    done = []
    todo = [(thing, False)]
    while todo:
        here, finished = todo.pop()
        if not isinstance(here, (tuple, list, dict)):
            done.append(here)
        elif not finished:
            todo.append((here, True))
            todo.extend([(part, False) for part in things_in(here)[::-1]])
        else:
            begin = len(done) - len(here)
            inner = done[begin:]
            del done[begin:]
            done.append(made_anew(here, inner))
    return done[0]
