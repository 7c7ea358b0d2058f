"""Papers as texts: whatever is told but objects, written and read."""

from deedworlds.basics import is_below
from deedworlds.copying import things_in
from deedworlds.errors import NoNumber, TooDeep
from deedworlds.papercodes import CLOSING, Codes, atom_key, is_bare_word, opening_of
from deedworlds.paperreader import PaperReader

MOST_DEEP = 300


def need_deep(deep):
    """Refuse what is no bound of depth."""
    if not is_below(deep, MOST_DEEP + 1):
        raise NoNumber("no bound of depth")


def text_as_written(text):
    """A text as it is written: as it is, or between two signs."""
    if is_bare_word(text):
        return text
    inside = text.replace("^", "^^").replace("\"", "^\"").replace("\n", "^n")
    return "\"" + inside + "\""


def atom_text(thing):
    """What is written of a thing without things in it."""
    if thing is None:
        return "none"
    if isinstance(thing, bool):
        return "yes" if thing else "no"
    return text_as_written(thing) if isinstance(thing, str) else str(thing)


def in_order(thing):
    """The things in a tuple, list or dict, of a dict in the order of its keys."""
    if isinstance(thing, dict):
        return [thing[key] for key in sorted(list(thing))]
    return things_in(thing)


def text_around(opening, keys, texts):
    """What is written of a tuple, list or dict, of what is written in it."""
    if opening == "{":
        texts = [f"{text_as_written(key)}:{text}" for key, text in zip(keys, texts)]
    return opening + " ".join(texts) + CLOSING[opening]


def written_around(coding, thing, inner):
    """What is written of a tuple, list or dict, its code and its depth, of these of the things in it."""
    opening = opening_of(thing)
    keys = sorted(list(thing)) if opening == "{" else []
    code = coding.code_around(opening, keys, [one[1] for one in inner])
    depth = 1 + max([one[2] for one in inner], default=0)
    if code in coding.whole_numbers:
        return ("#" + str(coding.whole_numbers[code]), code, depth)
    if inner:
        coding.number_next(code)
    return (text_around(opening, keys, [one[0] for one in inner]), code, depth)


def written(thing):
    """What is written of a thing, its code and its depth.

    What is the same as one ahead has nothing in it that isn't, so that its parts get no numbers of their own."""
    coding = Codes()
    done = []
    todo = [(thing, False)]
    while todo:
        here, finished = todo.pop()
        if not isinstance(here, (tuple, list, dict)):
            done.append((atom_text(here), coding.code_of(atom_key(here)), 0))
        elif not finished:
            todo.append((here, True))
            todo.extend([(part, False) for part in in_order(here)[::-1]])
        else:
            begin = len(done) - len(here)
            inner = done[begin:]
            del done[begin:]
            done.append(written_around(coding, here, inner))
    return done[0]


def paper_text(thing, *, deep=MOST_DEEP):
    """The text of a thing; refused where too many lie within one another in it."""
    need_deep(deep)
    text, code, depth = written(thing)
    if depth > deep:
        raise TooDeep("too many within one another")
    return text


def read_paper(text, *, deep=MOST_DEEP):
    """The thing that a text writes."""
    need_deep(deep)
    return PaperReader(text, deep).read()
