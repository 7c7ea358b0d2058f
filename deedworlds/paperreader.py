"""The reader of papers' texts: it goes from sign to sign, and breaks off where no such text begins so."""

from deedworlds.copying import own_copy
from deedworlds.errors import NoText
from deedworlds.papercodes import CLOSING, WORDS, Codes, atom_key, is_bare_word, is_small

FIGURES = "0123456789"
MOST_FIGURES = 30
MARKED = {"\"": "\"", "^": "^", "n": "\n"}


class OpenOne:
    """A tuple, list or dict that isn't closed yet, with what stands in it so far."""

    def __init__(self, opening):
        self.opening = opening
        self.keys_read = []
        self.inside = []
        self.codes = []
        self.depth = 0

    def put_inside(self, value):
        """One thing more: a tuple of the thing, its code, and how many lie within one another in it."""
        self.inside.append(value[0])
        self.codes.append(value[1])
        self.depth = max(self.depth, value[2])

    def as_thing(self):
        """The thing that it is when it is closed."""
        if self.opening == "(":
            return tuple(self.inside)
        return self.inside if self.opening == "[" else dict(zip(self.keys_read, self.inside))


class PaperReader:
    """A text, and how much of it was read."""

    def __init__(self, text, deep):
        self.text = text
        self.at = 0
        self.deep = deep
        self.coding = Codes()
        self.wholes = []
        self.not_closed = []

    def next_sign(self):
        """The next sign, the text without signs where the text ends."""
        return self.text[self.at:self.at + 1]

    def is_next(self, signs):
        """Whether one of these signs comes next."""
        sign = self.next_sign()
        return sign != "" and sign in signs

    def break_off(self, at):
        """Refuse the text, of which so many signs at its beginning are right."""
        raise NoText(0, at)

    def read(self):
        """The thing that the whole text writes."""
        value = self.value_or_none()
        while value is None or self.not_closed:
            if value is None:
                value = self.value_or_none()
            else:
                value = self.value_behind(value)
        if self.at < len(self.text):
            self.break_off(self.at)
        return value[0]

    def value_or_none(self):
        """The value that stands next, None where a tuple, list or dict is opened that has something in it."""
        sign = self.next_sign()
        if sign == "":
            self.break_off(self.at)
        if sign in CLOSING:
            return self.opened(sign)
        if sign == "#":
            return self.led_to()
        if sign == "\"":
            return self.atom(self.quoted())
        if sign == "-" or sign in FIGURES:
            return self.atom(self.whole_number())
        if is_small(sign):
            word = self.small_word()
            return self.atom(WORDS.get(word, word))
        return self.break_off(self.at)

    def atom(self, thing):
        """A value without things in it."""
        return (thing, self.coding.code_of(atom_key(thing)), 0)

    def opened(self, sign):
        """The value of an empty tuple, list or dict; else None, and one more is open."""
        if len(self.not_closed) == self.deep:
            self.break_off(self.at)
        self.at += 1
        one = OpenOne(sign)
        if self.is_next(CLOSING[sign]):
            self.at += 1
            return (one.as_thing(), self.coding.code_around(sign, [], []), 1)
        self.not_closed.append(one)
        if sign == "{":
            self.read_key(one)
        return None

    def value_behind(self, value):
        """Put a value into the last open one; tell the value of that where it is closed, else None."""
        one = self.not_closed[-1]
        one.put_inside(value)
        if self.is_next(" "):
            self.at += 1
            if one.opening == "{":
                self.read_key(one)
            return None
        if not self.is_next(CLOSING[one.opening]):
            self.break_off(self.at)
        code = self.coding.code_around(one.opening, one.keys_read, one.codes)
        if code in self.coding.whole_numbers:
            self.break_off(self.at)
        self.at += 1
        self.coding.number_next(code)
        self.not_closed.pop()
        told = (one.as_thing(), code, one.depth + 1)
        self.wholes.append(told)
        return told

    def led_to(self):
        """The value of the whole one that a number leads to, told anew."""
        mark = self.at
        self.at += 1
        if not self.is_next(FIGURES):
            self.break_off(self.at)
        begin = self.at
        number = self.figures_read()
        if number >= len(self.wholes):
            self.break_off(begin)
        thing, code, depth = self.wholes[number]
        if len(self.not_closed) + depth > self.deep:
            self.break_off(mark)
        return (own_copy(thing), code, depth)

    def figures_read(self):
        """The number that figures write from here on, beyond all whole ones where these are very many."""
        begin = self.at
        self.at += 1
        # it ends behind a 0 at its begin
        if self.text[begin] != "0":
            while self.is_next(FIGURES):
                self.at += 1
        return int(self.text[begin:self.at]) if self.at - begin <= MOST_FIGURES else len(self.wholes)

    def whole_number(self):
        """The whole number that stands next."""
        begin = self.at
        if self.is_next("-"):
            self.at += 1
            if not self.is_next(FIGURES[1:]):
                self.break_off(self.at)
        first = self.at
        self.at += 1
        if self.text[first] != "0":
            while self.is_next(FIGURES) and self.at - first < MOST_FIGURES:
                self.at += 1
        return int(self.text[begin:self.at])

    def small_word(self):
        """The small letters that stand next, as many as there are."""
        begin = self.at
        while self.at < len(self.text) and is_small(self.text[self.at]):
            self.at += 1
        return self.text[begin:self.at]

    def quoted(self):
        """The text between two signs that stands next."""
        begin = self.at
        signs = []
        self.at += 1
        while not self.is_next("\""):
            signs.append(self.sign_inside())
        text = "".join(signs)
        if is_bare_word(text):
            self.break_off(begin)
        self.at += 1
        return text

    def sign_inside(self):
        """The next sign of a text between two signs, perhaps with a mark ahead."""
        sign = self.next_sign()
        if sign == "^":
            self.at += 1
            sign = MARKED.get(self.next_sign(), "")
        elif not " " <= sign <= "~":
            sign = ""
        if sign == "":
            self.break_off(self.at)
        self.at += 1
        return sign

    def read_key(self, one):
        """Read the key that stands next in a dict, and the sign behind it."""
        begin = self.at
        if self.is_next("\""):
            key = self.quoted()
        else:
            key = self.small_word()
        if key == "" and self.at == begin:
            self.break_off(begin)
        if one.keys_read and key <= one.keys_read[-1]:
            self.break_off(begin)
        if not self.is_next(":") or (key in WORDS and self.text[begin] != "\""):
            self.break_off(self.at)
        self.at += 1
        one.keys_read.append(key)
