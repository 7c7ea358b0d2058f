"""Books of a house: a signature, axioms, claims with what is known of them, and what was taught."""

from deedworlds.basics import is_below
from deedworlds.errors import NoNumber, NoTitle, TooMany
from deedworlds.models import first_unkept
from deedworlds.terms import MOST_EQUATIONS

TITLE_LETTERS = "abcdefghijklmnopqrstuvwxyz"
MOST_TITLE = 8
MOST_BOOKS = 8
MOST_CLAIMS = 16


def is_title(thing):
    """Whether it is a title."""
    if not isinstance(thing, str) or not 1 <= len(thing) <= MOST_TITLE:
        return False
    return all([sign in TITLE_LETTERS for sign in thing])


class Book:
    """A book that stays as it is: what is done to it tells another one."""

    def __init__(self, title, signature):
        self.title = title
        self.signature = signature
        self.axioms = ()
        self.claimed = ()
        self.answers = ()
        self.taught = None

    def its_kind(self):
        """The signature with the axioms."""
        return (self.signature, self.axioms)

    def turned_into(self, axioms, claimed, answers, taught):
        """Another book of this title and signature."""
        book = Book(self.title, self.signature)
        book.axioms = axioms
        book.claimed = claimed
        book.answers = answers
        book.taught = taught
        return book

    def with_answer(self, number, answer):
        """The book with another answer known of a claim."""
        answers = self.answers[:number] + (answer,) + self.answers[number + 1:]
        return self.turned_into(self.axioms, self.claimed, answers, self.taught)

    def with_paper(self, paper):
        """The book with another paper taught."""
        return self.turned_into(self.axioms, self.claimed, self.answers, paper)

    def with_claim(self, equation):
        """The book with a claim behind the others; refused where there is no room."""
        if len(self.claimed) == MOST_CLAIMS:
            raise TooMany("too many claims")
        return self.turned_into(self.axioms, self.claimed + (equation,), self.answers + (None,), self.taught)

    def without_claim(self, number):
        """The book without a claim."""
        claimed = self.claimed[:number] + self.claimed[number + 1:]
        answers = self.answers[:number] + self.answers[number + 1:]
        return self.turned_into(self.axioms, claimed, answers, self.taught)

    def with_axiom(self, equation):
        """The book with an axiom behind the others; refused where there is no room."""
        if len(self.axioms) == MOST_EQUATIONS:
            raise TooMany("too many axioms")
        answers = tuple([kept_with(self.signature, equation, answer) for answer in self.answers])
        return self.turned_into(self.axioms + (equation,), self.claimed, answers, None)

    def without_axiom(self, number):
        """The book without an axiom."""
        answers = tuple([kept_without(number, answer) for answer in self.answers])
        axioms = self.axioms[:number] + self.axioms[number + 1:]
        return self.turned_into(axioms, self.claimed, answers, None)

    def fallen_in(self, book):
        """The numbers of the claims of which an answer is known here, and none in another book."""
        pairs = list(zip(self.answers, book.answers))
        return [k for k, (one, other) in enumerate(pairs) if one is not None and other is None]


def kept_with(signature, equation, answer):
    """What stays known of an answer when an axiom is put."""
    if answer is None or answer[0] == "road":
        return answer
    if answer[0] == "model" and first_unkept((signature, (equation,)), answer[1]) is None:
        return answer
    return None


def axioms_gone_by(lines):
    """The numbers of the axioms by which a road goes, rising, each once."""
    return sorted(set([reason[0] for term, reason in lines[1:]]))


def line_without(number, line):
    """A line of a road with the number of its equation one less, where it is greater than another one."""
    term, (place, turned, path, put) = line
    return (term, (place - 1 if place > number else place, turned, path, put))


def kept_without(number, answer):
    """What stays known of an answer when an axiom is struck."""
    if answer is None or answer[0] == "model":
        return answer
    if answer[0] == "road" and number not in axioms_gone_by(answer[1]):
        return ("road", answer[1][:1] + [line_without(number, line) for line in answer[1][1:]])
    return None


def place_of_title(shelf, title):
    """The place of the book of a title on a shelf; refused where none has it."""
    if isinstance(title, str):
        for at, book in enumerate(shelf):
            if book.title == title:
                return at
    raise NoTitle("no book of this title")


def book_of(shelf, title):
    """The book of a title on a shelf; refused where none has it."""
    return shelf[place_of_title(shelf, title)]


def need_new_title(shelf, title):
    """Refuse what is no title, or that of a book."""
    if not is_title(title) or title in [book.title for book in shelf]:
        raise NoTitle("no new title")


def need_claim(book, number):
    """Refuse what is no number of a claim."""
    if not is_below(number, len(book.claimed)):
        raise NoNumber("no claim has this number")


def with_book(shelf, book):
    """A shelf with another book in the place of the one of its title."""
    return [book if one.title == book.title else one for one in shelf]
