"""Codes for things: two things have one code just where they are the same."""

WORDS = {"none": None, "yes": True, "no": False}
CLOSING = {"(": ")", "[": "]", "{": "}"}


def is_small(sign):
    """Whether it is a small letter."""
    return "a" <= sign <= "z"


def is_bare_word(text):
    """Whether a text is written as it is."""
    return text != "" and text not in WORDS and all([is_small(sign) for sign in text])


def opening_of(thing):
    """The sign that opens a tuple, list or dict."""
    if isinstance(thing, tuple):
        return "("
    return "[" if isinstance(thing, list) else "{"


def atom_key(thing):
    """What tells a thing without things in it from others: a truth is no number."""
    if thing is None:
        return ("none",)
    if isinstance(thing, bool):
        return ("truth", "yes" if thing else "no")
    if isinstance(thing, str):
        return ("text", thing)
    return ("number", thing)


class Codes:
    """The codes that were given, and the numbers of the whole ones whose closing signs stand ahead."""

    def __init__(self):
        self.given = {}
        self.whole_numbers = {}

    def code_of(self, key):
        """The code of what this key tells from others."""
        return self.given.setdefault(key, len(self.given))

    def code_around(self, opening, keys, codes):
        """The code of a tuple, list or dict, of the codes in it, of a dict with its keys in order."""
        if opening != "{":
            return self.code_of((opening,) + tuple(codes))
        row = [opening]
        for key, code in zip(keys, codes):
            row.append(key)
            row.append(code)
        return self.code_of(tuple(row))

    def number_next(self, code):
        """Give a whole one the next number."""
        self.whole_numbers[code] = len(self.whole_numbers)
