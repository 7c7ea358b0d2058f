"""Points 38 and 39: joins, quotients, and chains."""

import itertools
import unittest

from deedworlds.errors import NoJoin, NoModel, NoNumbers, NoSignature
from deedworlds.joins import chain, chain_judged, covers, joined, joins, quotient
from tests.helpers import MFE, Checks, breaks, fixed_chance, nested, some_model, some_term, tables_as_dict

F = (("f", 1),)
M2 = (("m", 2),)
SIGNATURES = [F, M2, MFE, (("c", 0), ("f", 1)), (("c", 0),), (("f", 1), ("g", 1))]
ROUND = (4, ((1, 2, 3, 0),))
FIRST = (6, (tuple(number // 6 for number in range(36)),))
NO_PAIRS = [None, True, 0, "01", (), ((0, 1),), [0], [[0, 1]], [(0,)], [(0, 1, 2)], [(0, 4)], [(-1, 0)], [(0, True)],
            [(False, 1)], [(0, "1")], [(0, None)], [(0, 1), None], [()], nested(300), [nested(299)],
            [(nested(297), 0)]]


def is_join(signature, model, lots):
    """Whether a list is a join, all rows of args that are lot by lot alike gone through."""
    if any(lots.index(least) != least or lots[least] != least or least > k for k, least in enumerate(lots)):
        return False
    met = {}
    for (name, args), worth in tables_as_dict(signature, model).items():
        key = (name, tuple(lots[arg] for arg in args))
        if met.setdefault(key, lots[worth]) != lots[worth]:
            return False
    return True


def all_joins(signature, model):
    rows = itertools.product(*[range(k + 1) for k in range(model[0])])
    return [list(row) for row in rows if is_join(signature, model, list(row))]


def together(lots):
    return {(a, b) for a in range(len(lots)) for b in range(len(lots)) if lots[a] == lots[b]}


def some_models(seed, many, most=5):
    chance = fixed_chance(seed)
    for step in range(many):
        signature = chance.choice(SIGNATURES)
        size = chance.randrange(1, most + 1)
        if step % 3 == 0:
            # tables that keep to lots, so that there are more joins than the two that are always there
            lots = [chance.randrange(k + 1) for k in range(size)]
            tables = tuple(tuple(lots[sum(row) % size] for row in itertools.product(range(size), repeat=places))
                           for name, places in signature)
            yield chance, signature, (size, tables)
        else:
            yield chance, signature, some_model(chance, signature, size)


class JoinsTest(Checks, unittest.TestCase):
    def test_ordinary_ones(self):
        self.assertEqual(joins(signature=F, model=ROUND), [[0, 0, 0, 0], [0, 1, 0, 1], [0, 1, 2, 3]])
        self.assertEqual(joined(signature=F, model=ROUND, pairs=[(3, 1)]), [0, 1, 0, 1])
        self.assertEqual(joined(F, ROUND, [(0, 1)]), [0, 0, 0, 0])
        self.assertEqual(joined(F, ROUND, []), [0, 1, 2, 3])
        self.assertEqual(joined(F, ROUND, [(2, 2), (2, 0), (0, 2), (2, 0)]), [0, 1, 0, 1])
        self.assertEqual(covers(signature=F, model=ROUND), [(1, 0), (2, 1)])
        self.assertEqual(quotient(signature=F, model=ROUND, join=[0, 1, 0, 1]), (2, ((1, 0),)))
        self.assertEqual(quotient(F, ROUND, [0, 0, 0, 0]), (1, ((0,),)))
        self.assertEqual(quotient(F, ROUND, [0, 1, 2, 3]), ROUND)

    def test_against_all_lists(self):
        more = 0
        for chance, signature, model in some_models(44, 150):
            wanted = all_joins(signature, model)
            more += len(wanted) > 3
            self.assertEqual(joins(signature, model), wanted)
            for step in range(4):
                pairs = [(chance.randrange(model[0]), chance.randrange(model[0])) for k in range(chance.randrange(3))]
                least = [lots for lots in wanted if set(pairs) <= together(lots)]
                self.assertEqual(joined(signature, model, pairs), max(least, key=lambda lots: len(set(lots))))
        self.assertGreater(more, 10)

    def test_the_least_join_is_in_each_that_has_the_pairs(self):
        for chance, signature, model in some_models(45, 60):
            pairs = [(chance.randrange(model[0]), chance.randrange(model[0]))]
            told = together(joined(signature, model, pairs))
            for lots in all_joins(signature, model):
                if set(pairs) <= together(lots):
                    self.assertLessEqual(told, together(lots))

    def test_covers(self):
        for chance, signature, model in some_models(46, 80):
            lists = [together(lots) for lots in all_joins(signature, model)]
            wanted = [(i, j) for i, one in enumerate(lists) for j, other in enumerate(lists)
                      if one < other and not any(one < third < other for third in lists)]
            self.assertEqual(covers(signature, model), wanted)

    def test_all_lots_of_the_greatest(self):
        signature = (("a", 2), ("b", 2), ("c", 2), ("d", 2))
        model = (6, FIRST[1] * 4)
        told = joins(signature, model)
        self.assertEqual((len(told), told), (203, sorted(told)))
        self.assertEqual(len(covers(signature, model)), self.covers_of_all_lots(told))

    def covers_of_all_lots(self, lists):
        """Two lots put together are just what covers: one for each two lots of each join."""
        return sum(len(set(lots)) * (len(set(lots)) - 1) // 2 for lots in lists)

    def test_quotient_cell_by_cell(self):
        for chance, signature, model in some_models(47, 80):
            whole = tables_as_dict(signature, model)
            for lots in all_joins(signature, model):
                least = sorted(set(lots))
                told = quotient(signature, model, lots)
                self.assertEqual(told[0], len(least))
                folded = tables_as_dict(signature, told)
                for (name, args), worth in whole.items():
                    there = folded[(name, tuple(least.index(lots[arg]) for arg in args))]
                    self.assertEqual(least[there], lots[worth])

    def test_what_holds_holds_in_quotients(self):
        for chance, signature, model in some_models(48, 60, 4):
            claim = (some_term(chance, signature, 4, "xy"), some_term(chance, signature, 4, "xy"))
            if not breaks(signature, model, claim):
                for lots in joins(signature, model):
                    self.assertEqual(breaks(signature, quotient(signature, model, lots), claim), [])

    def test_no_join(self):
        for thing in [None, True, 0, "0101", (), [], (0, 1, 0, 1), [0, 1, 0], [0, 1, 0, 1, 4], [0, 1, 0, 4],
                      [0, 1, 0, -1], [1, 1, 1, 1], [0, 0, 1, 1], [0, 1, 1, 0], [0, 0, 2, 2], [0, 0, 0, 3],
                      [False, 1, 0, 1], [0, True, 0, 1], [0, 1, "0", 1], [0, 1, [0], 1], [2, 1, 2, 1],
                      nested(300), [nested(299)] * 4]:
            self.refuses(NoJoin, quotient, F, ROUND, thing)
        for chance, signature, model in some_models(49, 30, 4):
            good = all_joins(signature, model)
            for row in itertools.product(range(model[0]), repeat=model[0]):
                if list(row) not in good:
                    self.refuses(NoJoin, quotient, signature, model, list(row))

    def test_no_numbers(self):
        for thing in NO_PAIRS:
            self.refuses(NoNumbers, joined, F, ROUND, thing)
            self.refuses(NoNumbers, chain, F, ROUND, thing, None, None)
            self.refuses(NoNumbers, chain, F, ROUND, thing, 0, 0)
            self.refuses(NoNumbers, chain_judged, F, ROUND, thing, 0, 0, None)
        for a, b in [(4, 0), (0, 4), (-1, 0), (0, -1), (True, 0), (0, False), (None, 0), (0, "0"), (0, [0]),
                     (nested(300), 0)]:
            self.refuses(NoNumbers, chain, F, ROUND, [(0, 1)], a, b)
            self.refuses(NoNumbers, chain_judged, F, ROUND, [(0, 1)], a, b, None)

    def test_signature_and_model_first(self):
        for function, more in [(joined, (None,)), (joins, ()), (covers, ()), (quotient, (None,)),
                               (chain, (None, None, None)), (chain_judged, (None, None, None, None))]:
            self.refuses(NoSignature, function, None, None, *more)
            for thing in [None, (2, ()), (2, ((2, 0),)), [2, ((1, 0),)], (2, ((True, 0),)), nested(300)]:
                self.refuses(NoModel, function, F, thing, *more)

    def test_told_lists_are_own(self):
        self.own(joined, F, ROUND, [(0, 2)])
        self.own(joins, F, ROUND)
        self.own(covers, F, ROUND)
        self.own(quotient, F, ROUND, [0, 1, 0, 1])
        self.own(chain, F, ROUND, [(0, 1)], 1, 3)
        self.own(chain, F, ROUND, [(0, 1)], 1, 1)
        self.own(chain_judged, F, ROUND, [(0, 1)], 1, 3, chain(F, ROUND, [(0, 1)], 1, 3))


class ChainTest(Checks, unittest.TestCase):
    pairs = [(0, 2), (3, 3)]
    good = [(2, 0, ("pair", 0)), (1, 3, ("deed", "f", (0,), 0, 0)), (1, 1, ("way", []))]

    def judged(self, thing, wanted, a=3, b=1, pairs=None, signature=F, model=ROUND):
        pairs = self.pairs if pairs is None else pairs
        told = chain_judged(signature=signature, model=model, pairs=pairs, a=a, b=b, thing=thing)
        self.assertEqual(told, wanted, thing)

    def test_told_chains(self):
        told = {True: 0, False: 0}
        for chance, signature, model in some_models(50, 80):
            pairs = [(chance.randrange(model[0]), chance.randrange(model[0])) for k in range(chance.randrange(4))]
            lots = joined(signature, model, pairs)
            for a, b in itertools.product(range(model[0]), repeat=2):
                steps = chain(signature=signature, model=model, pairs=pairs, a=a, b=b)
                told[steps is None] += 1
                self.assertEqual(steps is None, lots[a] != lots[b])
                if steps is not None:
                    self.judged(steps, None, a, b, pairs, signature, model)
                    self.judged_spoilt(chance, signature, model, pairs, a, b, steps)
        self.assertGreater(min(told.values()), 100)

    def judged_spoilt(self, chance, signature, model, pairs, a, b, steps):
        """Steps left out, told twice, exchanged and by other reasons, against the words of the document."""
        for step in range(4):
            thing = list(steps)
            if thing:
                k, other = chance.randrange(len(thing)), chance.randrange(len(thing))
                way = chance.randrange(5)
                if way == 0:
                    del thing[k]
                elif way == 1:
                    thing.insert(other, thing[k])
                elif way == 2:
                    thing[k], thing[other] = thing[other], thing[k]
                elif way == 3:
                    thing[k] = (thing[k][1], thing[k][0], thing[k][2])
                else:
                    thing[k] = (thing[k][0], thing[k][1], self.other_reason(chance, signature, model, len(thing)))
            self.judged(thing, self.by_words(signature, model, pairs, a, b, thing), a, b, pairs, signature, model)

    def other_reason(self, chance, signature, model, many):
        if chance.random() < 0.3:
            return ("pair", chance.randrange(-1, 4))
        if chance.random() < 0.3:
            return ("way", [chance.randrange(-1, many) for k in range(chance.randrange(3))])
        name, places = chance.choice(signature)
        args = tuple(chance.randrange(model[0]) for place in range(places))
        return ("deed", name, args, chance.randrange(-1, 3), chance.randrange(-1, many))

    def by_words(self, signature, model, pairs, a, b, thing):
        whole = tables_as_dict(signature, model)
        for i, (one, other, reason) in enumerate(thing):
            if not (0 <= one < model[0] and 0 <= other < model[0]):
                return ("step", i)
            ways = [{(p, q), (q, p)} for p, q, why in thing[:i]]
            if reason[0] == "pair":
                right = 0 <= reason[1] < len(pairs) and (one, other) in [pairs[reason[1]], pairs[reason[1]][::-1]]
            elif reason[0] == "deed":
                word, name, args, at, j = reason
                right = 0 <= j < i and 0 <= at < len(args) and (name, args) in whole and any(
                    args[at] == p and whole[(name, args)] == one
                    and whole[(name, args[:at] + (q,) + args[at + 1:])] == other for p, q in ways[j])
            else:
                here = {one}
                for j in reason[1]:
                    here = {q for p, q in ways[j] if p in here} if 0 <= j < i else set()
                right = other in here
            if not right:
                return ("step", i)
        ends = (thing[-1][0], thing[-1][1]) if thing else (a, a)
        return None if ends == (a, b) else ("end",)

    def test_no_steps(self):
        self.assertEqual(chain(F, ROUND, [], 2, 2), [])
        self.assertEqual(chain(F, ROUND, [(0, 1)], 2, 2), [])
        self.judged([], None, 2, 2)
        self.judged([], ("end",), 2, 0)
        self.assertIsNone(chain(F, ROUND, [(0, 2)], 0, 1))

    def test_a_chain_written_by_hand(self):
        self.judged(self.good + [(3, 1, ("way", [1]))], None)
        self.judged(self.good[:2], ("end",))
        self.judged(self.good[:2], None, 1, 3)
        self.judged(self.good[:2], ("end",), 1, 1)
        self.judged(self.good[:2], ("end",), 0, 3)
        self.judged(self.good[:1], None, 2, 0)

    def test_form(self):
        step = self.good[0]
        for thing in [None, True, "x", (), tuple(self.good[:1]), [None], [step[:2]], [step + (None,)], [list(step)],
                      [("2", 0, step[2])], [(True, 0, step[2])], [(2, False, step[2])], [(2, None, step[2])],
                      nested(300), [nested(299)]]:
            self.judged(thing, ("form",))
        for reason in [None, (), "pair", ["pair", 0], ("pair",), ("pair", True), ("pair", None), ("pair", 0, 0),
                       ("Pair", 0), ("deed",), ("deed", "f", (0,), 0), ("deed", "f", (0,), 0, 0, 0),
                       ("deed", None, (0,), 0, 0), ("deed", "f", [0], 0, 0), ("deed", "f", (0,), False, 0),
                       ("deed", "f", (0,), 0, False), ("deed", "f", (0,), "0", 0), ("way",), ("way", ()),
                       ("way", [True]), ("way", [None]), ("way", [0, "0"]), ("way", [], []), ("way", None), (None, 0),
                       (["way"], [])]:
            self.judged([step, (1, 3, reason)], ("form",))
            self.judged([(9, 9, ("pair", 9)), (1, 3, reason)], ("form",))

    def test_steps_by_pairs(self):
        for one, other, k in [(0, 2, 0), (2, 0, 0), (3, 3, 1)]:
            self.judged([(one, other, ("pair", k))], None, one, other)
        for one, other, k in [(0, 1, 0), (2, 2, 0), (0, 2, 1), (0, 2, 2), (0, 2, -1), (3, 3, -1), (0, 2, 10 ** 29)]:
            self.judged([(one, other, ("pair", k))], ("step", 0), one, other)

    def test_steps_by_deeds(self):
        for one, other, args, at, i, right in [
                (1, 3, (0,), 0, 0, True), (3, 1, (2,), 0, 0, True), (1, 3, (2,), 0, 0, False),
                (3, 1, (0,), 0, 0, False), (2, 0, (1,), 0, 0, False), (1, 3, (), 0, 0, False),
                (1, 3, (0, 0), 0, 0, False), (1, 3, (0,), 1, 0, False), (1, 3, (0,), -1, 0, False),
                (1, 3, (0,), 0, 1, False), (1, 3, (0,), 0, -1, False), (1, 3, (False,), 0, 0, False),
                (1, 3, ("0",), 0, 0, False), (1, 3, (None,), 0, 0, False), (1, 3, ([0],), 0, 0, False),
                (1, 3, (4,), 0, 0, False), (1, 1, (0,), 0, 0, False)]:
            self.judged([self.good[0], (one, other, ("deed", "f", args, at, i))], None if right else ("step", 1),
                        one, other)
        self.judged([self.good[0], (1, 3, ("deed", "g", (0,), 0, 0))], ("step", 1), 1, 3)
        self.judged([(1, 3, ("deed", "f", (0,), 0, 0))], ("step", 0), 1, 3)
        self.judged([(1, 3, ("deed", "f", (0,), 0, 1)), self.good[0]], ("step", 0), 1, 3)
        minus = (3, ((0, 2, 1, 1, 0, 2, 2, 1, 0),))
        for at, one, other, right in [(0, 1, 2, True), (1, 1, 0, True), (0, 2, 1, False), (1, 0, 1, False)]:
            self.judged([(1, 2, ("pair", 0)), (one, other, ("deed", "m", (1, 0) if at == 0 else (2, 1), at, 0))],
                        None if right else ("step", 1), one, other, [(1, 2)], M2, minus)
        self.judged([(0, 0, ("way", [])), (1, 1, ("deed", "c", (), 0, 0))], ("step", 1), 1, 1, [], (("c", 0),),
                    (2, ((1,),)))

    def test_steps_by_ways(self):
        ahead = self.good[:2]
        for one, other, numbers, right in [
                (2, 2, [], True), (2, 0, [], False), (2, 0, [0], True), (0, 2, [0], True), (2, 2, [0, 0], True),
                (1, 1, [1, 1], True), (1, 3, [1, 1, 1], True), (2, 3, [0, 1], False), (1, 3, [0], False),
                (2, 0, [2], False), (2, 0, [-1], False), (2, 0, [10 ** 29], False), (4, 4, [], False),
                (-1, -1, [], False), (10 ** 29, 10 ** 29, [], False)]:
            self.judged(ahead + [(one, other, ("way", numbers)), (1, 3, ("way", [1]))],
                        None if right else ("step", 2), 1, 3)

    def test_the_least_step(self):
        wrong = (0, 1, ("pair", 0))
        self.judged([wrong, wrong], ("step", 0))
        self.judged([self.good[0], wrong, wrong], ("step", 1))
        self.judged([self.good[0], self.good[1], wrong], ("step", 2))


if __name__ == "__main__":
    unittest.main()
