"""A desk at which a house is spoken to by texts."""

from deedworlds.answers import answered
from deedworlds.books import book_of, need_claim, need_new_title
from deedworlds.counting import all_models, how_many, spectrum
from deedworlds.errors import NoLine, NoNumber
from deedworlds.houses import House
from deedworlds.judge import claim_judged
from deedworlds.leaning import all_leaned, least_lots
from deedworlds.papertexts import paper_text, read_paper
from deedworlds.texts import equation_text, kind_text, read_equation, read_kind

FIGURES = "0123456789"
MOST_FIGURES = 12
# by its first word what stands behind it: T a book's title, N a new one, F a number in figures,
# and as the last one, blanks too, S a signature, E an equation, P a paper
FORMS = {
    "begin": "NS", "end": "T", "drop": "TF", "teach": "TP", "back": "", "again": "", "put": "TE", "strike": "TF",
    "settle": "T", "lead": "TTP", "take": "TTP", "suppose": "TFF", "join": "NTTP", "claim": "TE", "learn": "TFP",
    "ask": "TF", "known": "TF", "leaning": "TF", "paper": "T", "searched": "", "log": "", "found": "TF", "many": "TF",
    "spectrum": "TF", "leaned": "TF", "lots": "TF", "answer": "TFE", "books": "", "states": "T", "show": "T",
    "claims": "T", "judge": "TFP",
}
SILENT = ("begin", "end", "drop", "teach")
NUMBERS = ("put", "strike", "settle", "lead", "take", "suppose", "join")


def words_of(text):
    """The words of a text by its form, the last one perhaps with blanks; refused where it has no such form."""
    words = text.split(" ")
    if "\n" in text or words[0] not in FORMS:
        raise NoLine("no line that the desk knows")
    form = FORMS[words[0]]
    if form[-1:] in ("S", "E", "P"):
        many = len(form)
        words = words[:many] + [" ".join(words[many:])]
        if words[-1] == "":
            raise NoLine("nothing behind the words ahead")
    if len(words) != 1 + len(form):
        raise NoLine("another count of words")
    return words


def is_number_text(text):
    """Whether it writes a number: in figures, without a nought ahead of another one, not too many."""
    if not 1 <= len(text) <= MOST_FIGURES or not all([sign in FIGURES for sign in text]):
        return False
    return text == "0" or text[0] != "0"


def numbers_text(numbers):
    """Numbers with one blank between two, or none."""
    return " ".join([str(number) for number in numbers]) if numbers else "none"


def told_of_house(house, word, things):
    """What a house tells of itself."""
    if word == "known":
        return house.known(things[0], things[1])
    if word == "leaning":
        return house.leaning(things[0], things[1])
    if word == "paper":
        return house.paper(things[0])
    return house.searched() if word == "searched" else house.log()


def told_of_kind(kind, parts, word, things):
    """What is told of a kind by a size."""
    size = things[1]
    if word == "found":
        return all_models(kind, size)
    if word == "many":
        return how_many(kind, size)
    if word == "spectrum":
        return spectrum(kind, most=size)
    if word == "leaned":
        return all_leaned(kind, size, parts=parts)
    if word == "lots":
        return least_lots(kind, size)
    return answered(kind, things[2], size, parts=parts)


class Desk:
    """A house, and the texts that are said to it."""

    def __init__(self, *, size=3, parts=7):
        self.house = House(size=size, parts=parts)

    def say(self, text):
        """The answer to a text."""
        words = words_of(text)
        things = self.things_written(FORMS[words[0]], words[1:])
        return self.answer_to(words[0], things)

    def things_written(self, form, words):
        """The things that words write; refused titles first, then numbers, then what is read."""
        shelf = self.house.shelf
        for sign, word in zip(form, words):
            if sign == "T":
                book_of(shelf, word)
            elif sign == "N":
                need_new_title(shelf, word)
        for sign, word in zip(form, words):
            if sign == "F" and not is_number_text(word):
                raise NoNumber("no number")
        return [self.thing_written(sign, word, words[0]) for sign, word in zip(form, words)]

    def thing_written(self, sign, word, title):
        """The thing that a word writes."""
        if sign == "F":
            return int(word)
        if sign == "S":
            return read_kind("KIND " + word)[0]
        if sign == "E":
            return read_equation(self.house.kind(title)[0], word)
        return read_paper(word) if sign == "P" else word

    def answer_to(self, word, things):
        """The text that answers a word and its things."""
        if word in ("known", "leaning", "paper", "searched", "log"):
            return paper_text(told_of_house(self.house, word, things))
        if word in ("found", "many", "spectrum", "leaned", "lots", "answer"):
            return paper_text(told_of_kind(self.house.kind(things[0]), self.house.parts, word, things))
        if word in ("books", "states", "show", "claims"):
            return self.shown_text(word, things)
        if word == "judge":
            return self.judged_text(things[0], things[1], things[2])
        return self.deed_text(word, tuple(things))

    def deed_text(self, word, things):
        """What is answered to a deed."""
        if word == "back":
            self.house.back()
            return "ok"
        if word == "again":
            self.house.again()
            return "ok"
        told = self.house.alone(word, things)
        if word in SILENT:
            return "ok"
        if word in NUMBERS:
            return numbers_text(told)
        if word == "ask":
            return self.house.states(things[0])[things[1]]
        return told if word == "learn" else str(told)

    def shown_text(self, word, things):
        """What is answered of books, states, a kind and claims."""
        if word == "books":
            return " ".join(self.house.books())
        if word == "states":
            return " ".join(self.house.states(things[0]))
        kind = self.house.kind(things[0])
        if word == "show":
            return kind_text(kind)
        return "\n".join([equation_text(kind[0], claim) for claim in self.house.claims(things[0])])

    def judged_text(self, title, number, thing):
        """What the judge says of an answer to a claim."""
        book = book_of(self.house.shelf, title)
        need_claim(book, number)
        wrong = claim_judged(book.its_kind(), book.claimed[number], thing)
        return "yes" if wrong is None else f"no {paper_text(wrong)}"
