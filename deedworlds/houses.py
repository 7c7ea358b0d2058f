"""A house of books: axioms and claims, what is known of these, and what falls when an axiom is turned."""

from deedworlds.books import axioms_gone_by, book_of, need_claim
from deedworlds.copying import own_copy
from deedworlds.errors import DeedError, NoBack, NoDeed
from deedworlds.following import need_parts
from deedworlds.housework import DEEDS, is_row_of_deed, state_known
from deedworlds.models import need_size


class House:
    """Books by their titles; each deed makes a new shelf of them, so that those ahead can be stood back."""

    def __init__(self, *, size=3, parts=7):
        need_size(size)
        need_parts(parts)
        self.size = size
        self.parts = parts
        self.shelf = []
        self.ahead = []
        self.taken_off = []
        self.asked = []
        self.written = []

    def __len__(self):
        return len(self.shelf)

    def one_done(self, word, things):
        """Do one of the fourteen, and write it down; what it tells, and whether it counts as a deed."""
        action = DEEDS[word]
        try:
            told, shelf, counts = action(self, *things)
        except DeedError:
            self.written.append((word, "refused"))
            raise
        self.written.append((word, "done"))
        self.shelf = shelf
        return (told, counts)

    def stand_ahead(self, shelf):
        """Keep the shelf that stood ahead of a deed; what was taken back can't be done again."""
        self.ahead.append(shelf)
        self.taken_off = []

    def alone(self, word, things):
        """Do one of the fourteen as a deed of its own."""
        shelf = self.shelf
        told, counts = self.one_done(word, things)
        if counts:
            self.stand_ahead(shelf)
        return told

    def begin(self, title, signature):
        """A new book of a signature."""
        return self.alone("begin", (title, signature))

    def end(self, title):
        """The house without a book."""
        return self.alone("end", (title,))

    def put(self, title, equation):
        """An axiom more; the numbers of the claims whose answers fall."""
        return self.alone("put", (title, equation))

    def strike(self, title, number):
        """An axiom less; the numbers of the claims whose answers fall."""
        return self.alone("strike", (title, number))

    def claim(self, title, equation):
        """A claim more; its number."""
        return self.alone("claim", (title, equation))

    def drop(self, title, number):
        """A claim less."""
        return self.alone("drop", (title, number))

    def ask(self, title, number):
        """What is known of a claim, or is found of it."""
        return self.alone("ask", (title, number))

    def learn(self, title, number, answer):
        """Make known an answer that is right; the claim's state behind it."""
        return self.alone("learn", (title, number, answer))

    def teach(self, title, paper):
        """Teach a book a complete paper of its kind."""
        return self.alone("teach", (title, paper))

    def settle(self, title):
        """Ask all claims of which nothing is known; the numbers of those that become known."""
        return self.alone("settle", (title,))

    def lead(self, title, other, leading):
        """Lead roads over to another book; the numbers of its claims that become known."""
        return self.alone("lead", (title, other, leading))

    def take(self, title, other, leading):
        """Take models back from another book; the numbers of the claims that become known."""
        return self.alone("take", (title, other, leading))

    def suppose(self, title, parts, letters):
        """Put conjectures behind the claims; their numbers."""
        return self.alone("suppose", (title, parts, letters))

    def join(self, title, one, other, renaming):
        """A new book of two joined ones; the numbers of its claims of which something is known."""
        return self.alone("join", (title, one, other, renaming))

    def back(self):
        """Take back the last deed that wasn't taken back."""
        if not self.ahead:
            self.written.append(("back", "refused"))
            raise NoBack("no deed to take back")
        self.written.append(("back", "done"))
        self.taken_off.append(self.shelf)
        self.shelf = self.ahead.pop()

    def again(self):
        """Do again the last deed that was taken back."""
        if not self.taken_off:
            self.written.append(("again", "refused"))
            raise NoBack("no deed to do again")
        self.written.append(("again", "done"))
        self.ahead.append(self.shelf)
        self.shelf = self.taken_off.pop()

    def deeds(self, rows, *, keep=False):
        """Do a list of deeds as one; where one is refused none of them, or with keep those ahead of it."""
        shelf = self.shelf
        told = []
        counted = False
        self.written.append(("deeds", "begun"))
        try:
            for at, row in enumerate(list(rows)):
                if not is_row_of_deed(row):
                    raise NoDeed(at)
                one, counts = self.one_done(row[0], row[1:])
                told.append(one)
                counted = counted or counts
        except DeedError:
            self.written.append(("deeds", "refused"))
            if not keep:
                self.shelf = shelf
            elif counted:
                self.stand_ahead(shelf)
            raise
        self.written.append(("deeds", "done"))
        if counted:
            self.stand_ahead(shelf)
        return told

    def books(self):
        """The titles, in order."""
        return [book.title for book in self.shelf]

    def kind(self, title):
        """The kind of a book."""
        return book_of(self.shelf, title).its_kind()

    def claims(self, title):
        """The claims of a book."""
        return list(book_of(self.shelf, title).claimed)

    def paper(self, title):
        """The paper that a book was taught, or None."""
        return own_copy(book_of(self.shelf, title).taught)

    def answer_known(self, title, number):
        """What is known of a claim, as it is kept."""
        book = book_of(self.shelf, title)
        need_claim(book, number)
        return book.answers[number]

    def known(self, title, number):
        """What is known of a claim, or None."""
        return own_copy(self.answer_known(title, number))

    def states(self, title):
        """The states of the claims of a book."""
        return [state_known(answer) for answer in book_of(self.shelf, title).answers]

    def leaning(self, title, number):
        """The numbers of the axioms by which a known road goes, None where none is known."""
        answer = self.answer_known(title, number)
        return axioms_gone_by(answer[1]) if answer is not None and answer[0] == "road" else None

    def searched(self):
        """The kinds and claims that were searched, in order."""
        return list(self.asked)

    def log(self):
        """What was called, with its ending, in order."""
        return list(self.written)
