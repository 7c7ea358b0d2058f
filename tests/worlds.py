"""A plain world of books for tests, kept by the words of points 46 to 49a."""

import copy
import re

from deedworlds import errors
from deedworlds.complete import complete_wrong
from deedworlds.conjectures import conjectures
from deedworlds.joined import called_equation, called_kind, called_road, joined_kind, moved_answer
from deedworlds.judge import claim_judged, claim_state, found_answer
from deedworlds.leadings import leading_wrong, led_road
from deedworlds.models import keeps
from deedworlds.readings import model_read, term_read
from deedworlds.roads import road_uses
from deedworlds.terms import equation_wrong, signature_wrong
from tests.helpers import letters_in

COUNTS = {"begin": 2, "end": 1, "put": 2, "strike": 2, "claim": 2, "drop": 2, "ask": 2, "learn": 3, "teach": 2,
          "settle": 1, "lead": 3, "take": 3, "suppose": 3, "join": 4}


def whole(thing):
    return isinstance(thing, int) and not isinstance(thing, bool)


class World:
    def __init__(self, size=3, parts=7):
        self.size, self.parts = size, parts
        self.books = []
        self.past, self.future = [], []
        self.searched, self.log = [], []

    # what is asked

    def find(self, title):
        for book in self.books:
            if isinstance(title, str) and book["title"] == title:
                return book
        raise errors.NoTitle()

    def kind(self, book):
        return (book["signature"], tuple(book["axioms"]))

    def number(self, rows, number):
        if not whole(number) or not 0 <= number < len(rows):
            raise errors.NoNumber()

    def state(self, book, number):
        claim, answer = book["claims"][number]
        return "unasked" if answer is None else claim_state(self.kind(book), claim, answer)

    # deeds: each tells (told, whether it counts)

    def do_begin(self, title, signature):
        self.new_title(title)
        if signature_wrong(signature) is not None:
            raise errors.NoSignature()
        if len(self.books) == 8:
            raise errors.TooMany()
        self.books.append({"title": title, "signature": signature, "axioms": [], "claims": [], "paper": None})
        return None, True

    def new_title(self, title):
        if not isinstance(title, str) or not re.fullmatch("[a-z]{1,8}", title):
            raise errors.NoTitle()
        if title in [book["title"] for book in self.books]:
            raise errors.NoTitle()

    def do_end(self, title):
        self.books.remove(self.find(title))
        return None, True

    def do_put(self, title, equation):
        book = self.find(title)
        if equation_wrong(book["signature"], equation) is not None:
            raise errors.NoEquation()
        if len(book["axioms"]) == 8:
            raise errors.TooMany()
        book["axioms"].append(equation)
        book["paper"] = None
        return self.fall(book, lambda answer: answer if answer[0] == "road" or (
            answer[0] == "model" and keeps((book["signature"], (equation,)), answer[1])) else None), True

    def fall(self, book, stays):
        told = []
        for number, row in enumerate(book["claims"]):
            if row[1] is not None:
                row[1] = stays(row[1])
                if row[1] is None:
                    told.append(number)
        return told

    def do_strike(self, title, number):
        book = self.find(title)
        self.number(book["axioms"], number)
        kind = self.kind(book)

        def stays(answer):
            if answer[0] == "model":
                return answer
            if answer[0] != "road" or number in road_uses(kind, answer[1]):
                return None
            return ("road", [(term, reason and (reason[0] - (reason[0] > number),) + reason[1:])
                             for term, reason in answer[1]])

        told = self.fall(book, stays)
        del book["axioms"][number]
        book["paper"] = None
        return told, True

    def do_claim(self, title, equation):
        book = self.find(title)
        if equation_wrong(book["signature"], equation) is not None:
            raise errors.NoEquation()
        if len(book["claims"]) == 16:
            raise errors.TooMany()
        book["claims"].append([equation, None])
        return len(book["claims"]) - 1, True

    def do_drop(self, title, number):
        book = self.find(title)
        self.number(book["claims"], number)
        del book["claims"][number]
        return None, True

    def do_ask(self, title, number):
        book = self.find(title)
        self.number(book["claims"], number)
        row = book["claims"][number]
        if row[1] is not None:
            return row[1], False
        self.searched.append((self.kind(book), row[0]))
        row[1] = found_answer(self.kind(book), row[0], self.size, paper=book["paper"], parts=self.parts)
        return row[1], True

    def do_learn(self, title, number, answer):
        book = self.find(title)
        self.number(book["claims"], number)
        row = book["claims"][number]
        wrong = claim_judged(self.kind(book), row[0], answer)
        if wrong is not None:
            raise errors.NoAnswer(wrong)
        if not (answer[0] == "open" and row[1] is not None and row[1][0] != "open"):
            row[1] = copy.deepcopy(answer)
        return self.state(book, number), True

    def do_teach(self, title, paper):
        book = self.find(title)
        wrong = complete_wrong(self.kind(book), paper)
        if wrong is not None:
            raise errors.NoPaper(wrong)
        book["paper"] = copy.deepcopy(paper)
        return None, True

    def do_settle(self, title):
        told = []
        for number, row in enumerate(self.find(title)["claims"]):
            if row[1] is None:
                try:
                    self.do_ask(title, number)
                    told.append(number)
                except (errors.TooMany, errors.TooBig):
                    pass
        return told, bool(told)

    def leading(self, title, other, leading):
        book, target = self.find(title), self.find(other)
        wrong = leading_wrong(self.kind(book), self.kind(target), leading)
        if wrong is not None:
            raise errors.NoLeading(wrong)
        return book, target

    def as_read(self, book, target, leading, claim):
        try:
            return tuple(term_read(book["signature"], target["signature"], leading[0], side) for side in claim)
        except errors.TooBig:
            return None

    def do_lead(self, title, other, leading):
        book, target = self.leading(title, other, leading)
        told = []
        for claim, answer in copy.deepcopy(book["claims"]):
            read = self.as_read(book, target, leading, claim)
            if answer is None or answer[0] != "road" or read is None:
                continue
            if equation_wrong(target["signature"], read) is not None:
                continue
            try:
                road = led_road(self.kind(book), self.kind(target), leading, claim, answer[1])
            except (errors.TooMany, errors.TooBig):
                continue
            if read not in [row[0] for row in target["claims"]]:
                if len(target["claims"]) == 16:
                    raise errors.TooMany()
                target["claims"].append([read, None])
            number = [row[0] for row in target["claims"]].index(read)
            if self.state(target, number) != "holds":
                target["claims"][number][1] = ("road", road)
                told.append(number)
        return told, bool(told)

    def do_take(self, title, other, leading):
        book, target = self.leading(title, other, leading)
        told = []
        answers = copy.deepcopy(target["claims"])
        for number, row in enumerate(book["claims"]):
            if self.state(book, number) in ("holds", "refuted"):
                continue
            read = self.as_read(book, target, leading, row[0])
            models = [answer for claim, answer in answers if claim == read and answer and answer[0] == "model"]
            if models:
                by = dict(zip(letters_in(*read), models[0][2]))
                model = model_read(book["signature"], target["signature"], leading[0], models[0][1])
                row[1] = ("model", model, tuple(by.get(name, 0) for name in letters_in(*row[0])))
                told.append(number)
        return told, bool(told)

    def do_suppose(self, title, parts, letters):
        book = self.find(title)
        told = []
        for claim in conjectures(self.kind(book), self.size, parts=parts, letters=letters):
            if claim not in [row[0] for row in book["claims"]] and len(book["claims"]) < 16:
                told.append(len(book["claims"]))
                book["claims"].append([claim, None])
        return told, bool(told)

    def do_join(self, title, one, other, renaming):
        self.new_title(title)
        first, second = self.find(one), self.find(other)
        kinds = (self.kind(first), called_kind(self.kind(second), renaming))
        both = joined_kind(*kinds)
        claims = []
        for which, book in enumerate((first, second)):
            for claim, answer in copy.deepcopy(book["claims"]):
                if which:
                    claim = called_equation(second["signature"], renaming, claim)
                    if answer is not None and answer[0] == "road":
                        answer = ("road", called_road(self.kind(second), renaming, answer[1]))
                if answer is not None and answer[0] != "rules":
                    answer = None if answer[0] == "open" else moved_answer(*kinds, which, claim, answer)
                elif answer is not None:
                    answer = None
                same = [row for row in claims if row[0] == claim]
                if not same:
                    claims.append([claim, answer])
                elif same[0][1] is None:
                    same[0][1] = answer
        if len(claims) > 16 or len(self.books) == 8:
            raise errors.TooMany()
        self.books.append({"title": title, "signature": both[0], "axioms": list(both[1]), "claims": claims, "paper": None})
        return [number for number, row in enumerate(claims) if row[1] is not None], True

    # calls

    def one(self, word, things):
        """One of the fourteen; where it is refused all stays."""
        books = copy.deepcopy(self.books)
        try:
            told = getattr(self, "do_" + word)(*things)
        except errors.DeedError:
            self.books = books
            self.log.append((word, "refused"))
            raise
        self.log.append((word, "done"))
        return told

    def call(self, word, *things):
        books = copy.deepcopy(self.books)
        told, counts = self.one(word, things)
        if counts:
            self.past.append(books)
            self.future = []
        return copy.deepcopy(told)

    def back(self):
        if not self.past:
            self.log.append(("back", "refused"))
            raise errors.NoBack()
        self.log.append(("back", "done"))
        self.future.append(self.books)
        self.books = self.past.pop()

    def again(self):
        if not self.future:
            self.log.append(("again", "refused"))
            raise errors.NoBack()
        self.log.append(("again", "done"))
        self.past.append(self.books)
        self.books = self.future.pop()

    def deeds(self, rows, keep=False):
        books = copy.deepcopy(self.books)
        told, any_counts = [], False
        self.log.append(("deeds", "begun"))
        for at, row in enumerate(rows):
            try:
                if not isinstance(row, tuple) or not row or not isinstance(row[0], str) \
                        or COUNTS.get(row[0]) != len(row) - 1:
                    raise errors.NoDeed(at)
                one, counts = self.one(row[0], row[1:])
            except errors.DeedError:
                self.log.append(("deeds", "refused"))
                if keep and any_counts:
                    self.past.append(books)
                    self.future = []
                elif not keep:
                    self.books = books
                raise
            told.append(copy.deepcopy(one))
            any_counts = any_counts or counts
        self.log.append(("deeds", "done"))
        if any_counts:
            self.past.append(books)
            self.future = []
        return told

    def seen(self):
        """All that is asked of a house."""
        told = {"books": [book["title"] for book in self.books], "searched": self.searched, "log": self.log}
        for book in self.books:
            kind = self.kind(book)
            rows = []
            for number, (claim, answer) in enumerate(book["claims"]):
                leaning = road_uses(kind, answer[1]) if answer is not None and answer[0] == "road" else None
                rows.append((claim, answer, self.state(book, number), leaning))
            told[book["title"]] = (kind, rows, book["paper"])
        return copy.deepcopy(told)


def seen_of(house):
    """All that is asked of a House, in the form of World.seen."""
    told = {"books": house.books(), "searched": house.searched(), "log": house.log()}
    for title in house.books():
        rows = []
        for number, claim in enumerate(house.claims(title)):
            rows.append((claim, house.known(title, number), house.states(title)[number], house.leaning(title, number)))
        told[title] = (house.kind(title), rows, house.paper(title))
    return told
