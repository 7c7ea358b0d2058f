"""The refusals of the program: each stands straight under DeedError."""


class DeedError(ValueError):
    """Any refusal."""


class NoArgs(DeedError):
    """No row of arguments of the deed."""


class NoBack(DeedError):
    """There is no deed to take back, or to do again."""


class NoClosed(DeedError):
    """No closed list that has something in it."""


class NoEquation(DeedError):
    """No equation of the signature."""


class NoJoin(DeedError):
    """No join."""


class NoKind(DeedError):
    """No kind."""


class NoLead(DeedError):
    """No lead."""


class NoLetters(DeedError):
    """No row of variables that has those of the term."""


class NoLine(DeedError):
    """No line that the desk knows."""


class NoLink(DeedError):
    """The second road doesn't begin where the first one ends."""


class NoLot(DeedError):
    """No lot of the kind's equations."""


class NoModel(DeedError):
    """No model as it is asked for."""


class NoName(DeedError):
    """No deed has this name."""


class NoNumber(DeedError):
    """Nothing has this number."""


class NoNumbers(DeedError):
    """No list of numbers of the model."""


class NoOrder(DeedError):
    """No order of the size."""


class NoPair(DeedError):
    """No list of pairs."""


class NoPlace(DeedError):
    """No path of the term."""


class NoPutting(DeedError):
    """No putting."""


class NoReading(DeedError):
    """No reading."""


class NoRenaming(DeedError):
    """No renaming."""


class NoRoad(DeedError):
    """No road by the kind."""


class NoRow(DeedError):
    """No row."""


class NoRules(DeedError):
    """No rules."""


class NoSignature(DeedError):
    """No signature."""


class NoSize(DeedError):
    """No size of a model."""


class NoTerm(DeedError):
    """No term of the signature."""


class NoTitle(DeedError):
    """No title as it is asked for."""


class NoWeighing(DeedError):
    """No weighing."""


class NoWorths(DeedError):
    """No worths as they are asked for."""


class TooBig(DeedError):
    """A term would have too many parts."""


class TooDeep(DeedError):
    """Too much lies within one another."""


class TooMany(DeedError):
    """There would be too many."""


class NoAnswer(DeedError):
    """No right answer: wrong is what the judge tells."""

    def __init__(self, wrong=None):
        super().__init__(f"wrong {wrong}")
        self.wrong = wrong


class NoDeed(DeedError):
    """No deed of a house: at is its number in the list."""

    def __init__(self, at=None):
        super().__init__(f"at {at}")
        self.at = at


class NoFit(DeedError):
    """Two deeds of this name don't fit each other."""

    def __init__(self, name=None):
        super().__init__(f"name {name}")
        self.name = name


class NoLeading(DeedError):
    """No leading: wrong says why."""

    def __init__(self, wrong=None):
        super().__init__(f"wrong {wrong}")
        self.wrong = wrong


class NoLemmas(DeedError):
    """No lemmas: wrong says why."""

    def __init__(self, wrong=None):
        super().__init__(f"wrong {wrong}")
        self.wrong = wrong


class NoPaper(DeedError):
    """No complete paper: wrong says why."""

    def __init__(self, wrong=None):
        super().__init__(f"wrong {wrong}")
        self.wrong = wrong


class NoSearch(DeedError):
    """No search paper: wrong is what search_judged tells."""

    def __init__(self, wrong=None):
        super().__init__(f"wrong {wrong}")
        self.wrong = wrong


class NoText(DeedError):
    """No such text: row is the first line that is none, at how far it could be one."""

    def __init__(self, row=None, at=None):
        super().__init__(f"row {row}, at {at}")
        self.row = row
        self.at = at


class NoUse(DeedError):
    """No use: at is its number."""

    def __init__(self, at=None):
        super().__init__(f"at {at}")
        self.at = at
