"""The deeds of a house: each tells what is told of it, the shelf behind it, and whether it counts as a deed."""

from deedworlds.answers import answered
from deedworlds.basics import is_below
from deedworlds.books import (
    MOST_BOOKS, MOST_CLAIMS, Book, book_of, need_claim, need_new_title, place_of_title, with_book,
)
from deedworlds.complete import need_paper
from deedworlds.conjectures import conjectures
from deedworlds.copying import own_copy
from deedworlds.errors import NoAnswer, NoNumber, TooBig, TooMany
from deedworlds.joined import called_kind, joined_kind, lines_by_names, moved_answer, new_names, sides_by_names
from deedworlds.judge import answer_by_paper, claim_judged, right_state
from deedworlds.leadings import equation_read, led_by, need_leading
from deedworlds.readings import model_read, reading_by_names
from deedworlds.terms import equation_wrong, need_equation, need_signature
from deedworlds.termwork import variables_of


def state_known(answer):
    """The state of a claim by what is known of it."""
    return "unasked" if answer is None else right_state(answer)


def begun(house, title, signature):
    """A new book without axioms and claims."""
    need_new_title(house.shelf, title)
    need_signature(signature)
    if len(house.shelf) == MOST_BOOKS:
        raise TooMany("too many books")
    return (None, house.shelf + [Book(title, signature)], True)


def ended(house, title):
    """The shelf without a book."""
    at = place_of_title(house.shelf, title)
    return (None, house.shelf[:at] + house.shelf[at + 1:], True)


def put_behind(house, title, equation):
    """An axiom more."""
    book = book_of(house.shelf, title)
    need_equation(book.signature, equation)
    other = book.with_axiom(equation)
    return (book.fallen_in(other), with_book(house.shelf, other), True)


def struck(house, title, number):
    """An axiom less."""
    book = book_of(house.shelf, title)
    if not is_below(number, len(book.axioms)):
        raise NoNumber("no axiom has this number")
    other = book.without_axiom(number)
    return (book.fallen_in(other), with_book(house.shelf, other), True)


def claimed_behind(house, title, equation):
    """A claim more."""
    book = book_of(house.shelf, title)
    need_equation(book.signature, equation)
    return (len(book.claimed), with_book(house.shelf, book.with_claim(equation)), True)


def dropped(house, title, number):
    """A claim less."""
    book = book_of(house.shelf, title)
    need_claim(book, number)
    return (None, with_book(house.shelf, book.without_claim(number)), True)


def answer_for(house, book, number):
    """What is found of a claim by the bounds of the house and what was taught."""
    kind, claim = book.its_kind(), book.claimed[number]
    house.asked.append((kind, claim))
    if book.taught is None:
        return answered(kind, claim, house.size, parts=house.parts)
    # what was taught is right for the kind as it is: it needn't be judged again, as found_answer does
    return answer_by_paper(book.taught, claim)


def asked_for(house, title, number):
    """What is known of a claim, or is found of it."""
    book = book_of(house.shelf, title)
    need_claim(book, number)
    answer = book.answers[number]
    if answer is not None:
        return (own_copy(answer), house.shelf, False)
    answer = answer_for(house, book, number)
    return (own_copy(answer), with_book(house.shelf, book.with_answer(number, answer)), True)


def learned(house, title, number, answer):
    """An answer made known, whoever wrote it."""
    book = book_of(house.shelf, title)
    need_claim(book, number)
    wrong = claim_judged(book.its_kind(), book.claimed[number], answer)
    if wrong is not None:
        raise NoAnswer(wrong)
    if answer[0] != "open" or state_known(book.answers[number]) in ("unasked", "open"):
        book = book.with_answer(number, own_copy(answer))
    return (right_state(book.answers[number]), with_book(house.shelf, book), True)


def taught_to(house, title, paper):
    """A complete paper taught."""
    book = book_of(house.shelf, title)
    need_paper(book.its_kind(), paper)
    return (None, with_book(house.shelf, book.with_paper(own_copy(paper))), True)


def settled(house, title):
    """All claims asked of which nothing is known."""
    book = book_of(house.shelf, title)
    told = []
    unasked = [number for number, answer in enumerate(book.answers) if answer is None]
    for number in unasked:
        try:
            book = book.with_answer(number, answer_for(house, book, number))
            told.append(number)
        except (TooMany, TooBig):
            # it stays as it is
            continue
    return (told, with_book(house.shelf, book), told != [])


def led_or_none(kind, leading, answer):
    """The road that a known road becomes by a leading, None where it is refused, or no road is known."""
    if answer is None or answer[0] != "road":
        return None
    try:
        return led_by(kind, leading, answer[1])
    except (TooMany, TooBig):
        return None


def led_claims(book, target, leading):
    """The claims of a book that are led over, as read, each with its road."""
    by_names = reading_by_names(book.signature, leading[0])
    told = []
    for claim, answer in zip(book.claimed, book.answers):
        as_read = equation_read(by_names, claim)
        if as_read is not None and equation_wrong(target.signature, as_read) is None:
            road = led_or_none(book.its_kind(), leading, answer)
            if road is not None:
                told.append((as_read, road))
    return told


def led_over(house, title, other, leading):
    """Known roads led over to another book."""
    book, target = book_of(house.shelf, title), book_of(house.shelf, other)
    need_leading(book.its_kind(), target.its_kind(), leading)
    told = []
    for claim, road in led_claims(book, target, leading):
        if claim not in target.claimed:
            target = target.with_claim(claim)
        number = target.claimed.index(claim)
        if state_known(target.answers[number]) != "holds":
            target = target.with_answer(number, ("road", road))
            told.append(number)
    return (told, with_book(house.shelf, target), told != [])


def worths_taken(claim, as_read, worths):
    """The worths for a claim of those for the claim as read, 0 for letters that this lacks."""
    by_letters = dict(zip(variables_of(as_read), worths))
    return tuple([by_letters.get(name, 0) for name in variables_of(claim)])


def first_model(book, claim):
    """The first answer by a model that is known of a claim that is this one, or None."""
    for other, answer in zip(book.claimed, book.answers):
        if other == claim and answer is not None and answer[0] == "model":
            return answer
    return None


def taken_back(house, title, other, leading):
    """Known models of another book taken back as read."""
    book, source = book_of(house.shelf, title), book_of(house.shelf, other)
    need_leading(book.its_kind(), source.its_kind(), leading)
    by_names = reading_by_names(book.signature, leading[0])
    told = []
    claims = list(book.claimed)
    for number, claim in enumerate(claims):
        as_read = equation_read(by_names, claim)
        answer = None if as_read is None else first_model(source, as_read)
        if answer is not None and state_known(book.answers[number]) in ("unasked", "open"):
            model = model_read(book.signature, source.signature, leading[0], answer[1])
            book = book.with_answer(number, ("model", model, worths_taken(claim, as_read, answer[2])))
            told.append(number)
    return (told, with_book(house.shelf, book), told != [])


def supposed(house, title, parts, letters):
    """The conjectures of a book put behind its claims."""
    book = book_of(house.shelf, title)
    told = []
    for claim in conjectures(book.its_kind(), house.size, parts=parts, letters=letters):
        if claim not in book.claimed and len(book.claimed) < MOST_CLAIMS:
            told.append(len(book.claimed))
            book = book.with_claim(claim)
    return (told, with_book(house.shelf, book), told != [])


def called_answer(names, answer):
    """An answer with the deeds of its road called by new names; a model has no names."""
    return ("road", lines_by_names(names, answer[1])) if answer[0] == "road" else answer


def claims_moved(kinds, which, claims, answers):
    """The claims of one of two books, each with what is known of it in the joined kind."""
    told = []
    for claim, answer in zip(claims, answers):
        moved = None
        if answer is not None and answer[0] in ("road", "model"):
            moved = moved_answer(kinds[0], kinds[1], which, claim, answer)
        told.append((claim, moved))
    return told


def joined_books(house, title, one, other, renaming):
    """A new book of two joined ones."""
    need_new_title(house.shelf, title)
    first, second = book_of(house.shelf, one), book_of(house.shelf, other)
    kinds = (first.its_kind(), called_kind(second.its_kind(), renaming))
    signature, axioms = joined_kind(kinds[0], kinds[1])
    names = new_names(second.signature, renaming)
    others = [sides_by_names(names, claim) for claim in second.claimed]
    answers = [None if answer is None else called_answer(names, answer) for answer in second.answers]
    book = Book(title, signature).turned_into(axioms, (), (), None)
    for claim, answer in (claims_moved(kinds, 0, first.claimed, first.answers)
                          + claims_moved(kinds, 1, others, answers)):
        if claim not in book.claimed:
            book = book.with_claim(claim)
        number = book.claimed.index(claim)
        if book.answers[number] is None:
            book = book.with_answer(number, answer)
    if len(house.shelf) == MOST_BOOKS:
        raise TooMany("too many books")
    known = [number for number, answer in enumerate(book.answers) if answer is not None]
    return (known, house.shelf + [book], True)


DEEDS = {
    "begin": begun, "end": ended, "put": put_behind, "strike": struck, "claim": claimed_behind, "drop": dropped,
    "learn": learned, "teach": taught_to, "join": joined_books, "ask": asked_for, "settle": settled,
    "lead": led_over, "take": taken_back, "suppose": supposed,
}
THINGS = {
    "begin": 2, "end": 1, "put": 2, "strike": 2, "claim": 2, "drop": 2, "learn": 3, "teach": 2, "join": 4, "ask": 2,
    "settle": 1, "lead": 3, "take": 3, "suppose": 3,
}


def is_row_of_deed(thing):
    """Whether it is a tuple of the word of a deed and as many things as it has."""
    if not isinstance(thing, tuple) or not thing or not isinstance(thing[0], str):
        return False
    return thing[0] in THINGS and len(thing) == 1 + THINGS[thing[0]]
