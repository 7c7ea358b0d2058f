"""Terms of a stock made one: which putting makes two terms the same, and how great what comes of it is."""

from deedworlds.terms import VARIABLES


class Union:
    """Terms of a stock that shall become one, by their numbers; those that do have one leader.

    Nothing is put in while terms are made one, so that it is as quick for terms that grow without measure."""

    def __init__(self, stock):
        self.stock = stock
        self.leaders = {}
        self.grown_to = {}
        self.made = {}

    def leader_of(self, number):
        """The term that stands for all that become one with this one: a deed's, where there is one."""
        while number in self.leaders:
            number = self.leaders[number]
        return number

    def can_be_one(self, one, other):
        """Make two terms one; whether no two deeds stand against it."""
        stock = self.stock
        todo = [(one, other)]
        while todo:
            one, other = todo.pop()
            one, other = self.leader_of(one), self.leader_of(other)
            if one == other:
                continue
            if stock.heads[one] in VARIABLES:
                self.leaders[one] = other
            elif stock.heads[other] in VARIABLES:
                self.leaders[other] = one
            elif stock.heads[one] != stock.heads[other]:
                return False
            else:
                self.leaders[one] = other
                todo.extend(list(zip(stock.below[one], stock.below[other])))
        return True

    def parts_made(self, number):
        """How many parts a term has when all is made one, 0 where a term would stand in itself."""
        number = self.leader_of(number)
        if number not in self.grown_to:
            # one that is met again on its own way finds this 0
            self.grown_to[number] = 0
            many = 1
            for below in self.stock.below[number]:
                inner = self.parts_made(below)
                if inner == 0:
                    return 0
                many += inner
            self.grown_to[number] = many
        return self.grown_to[number]

    def number_made(self, number):
        """The number of what a term becomes when all is made one."""
        number = self.leader_of(number)
        if number not in self.made:
            below = []
            for part in self.stock.below[number]:
                below.append(self.number_made(part))
            self.made[number] = self.stock.number_for(self.stock.heads[number], tuple(below))
        return self.made[number]
