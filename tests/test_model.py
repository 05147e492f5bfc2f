"""Long lists of calls of all fourteen kinds, against the document's words told a second time in tests/model.py."""

import random
import unittest

from goodsplans.plans import answers
from tests import helper
from tests.model import Model

KINDS = ("begin", "recipe", "use", "back", "stock", "plan", "show", "exchange", "told", "net", "reach", "follow",
         "weigh", "need")
OFTEN = dict(begin=1, recipe=3, use=14, back=2, stock=4, plan=4, show=2, exchange=8, told=3, net=4, reach=3, follow=4,
             weigh=2, need=3)
ODD_NUMBERS = (-1, 12, 99, helper.FAR, -helper.FAR)


class Chooser:
    """Chooses calls that fit what the model holds most of the time, and some that do not."""

    def __init__(self, seed, names):
        self.random = random.Random(seed)
        self.names = names
        self.model = Model()

    def some(self, least, most):
        return [self.random.choice(self.names) for k in range(self.random.randint(least, most))]

    def is_odd(self):
        return self.random.random() < 0.06

    def number(self):
        if self.is_odd() or not self.model.recipes:
            return self.random.choice(ODD_NUMBERS + (len(self.model.recipes),))
        return self.random.randrange(len(self.model.recipes))

    def units(self, number):
        """Units that the recipe can take, as far as they are there."""
        there = list(zip(self.model.numbers(self.model.left()), self.model.left()))
        self.random.shuffle(there)
        wanted = list(self.model.recipes[number][0]) if self.model.known(number) else ["a"]
        found = []
        for name in wanted:
            fitting = [k for k, unit in there if k not in found and (unit.name == name or self.is_odd())]
            found.append(fitting[0] if fitting else self.random.randrange(-1, 30))
        return found

    def use_that_can_be_done(self):
        numbers = [k for k in range(len(self.model.recipes)) if self.model.need(k) == [0]]
        number = self.random.choice(numbers) if numbers and not self.is_odd() else self.number()
        return [number, self.units(number)]

    def arguments(self, kind):
        if kind == "begin":
            return [self.some(11, 12) if self.is_odd() else self.some(0, 10)]
        if kind == "recipe":
            return [self.some(1, 7 if self.is_odd() else 3), self.some(1, 7 if self.is_odd() else 3)]
        if kind == "use":
            return self.use_that_can_be_done()
        if kind in ("show", "need"):
            return [self.number()]
        if kind == "exchange":
            return [self.random.choice(ODD_NUMBERS) if self.is_odd() else self.random.randrange(-1, 10)]
        if kind == "reach":
            return [self.some(0, 11)]
        if kind == "follow":
            return [[self.number() for k in range(self.random.randrange(4))]]
        if kind == "weigh":
            names = self.some(0, 3) if self.is_odd() else sorted(set(self.some(0, 6)))
            count = len(names) + self.is_odd()
            return [names, [self.random.choice((0, 1, 1, 2, -1, helper.FAR, -helper.FAR)) for k in range(count)]]
        return []

    def call(self, kind):
        """A call as numbers, and what the model answers."""
        given = self.arguments(kind)
        expected = getattr(self.model, kind)(*given)
        if kind == "recipe":
            given = ["*".join(given[0]) + " -o " + "*".join(given[1])]
        if kind in ("begin", "reach", "weigh"):
            given[0] = " ".join(given[0])
        if kind in ("use", "follow", "weigh"):
            given = given[:-1] + given[-1]
        return getattr(helper, kind)(*given), expected


def chosen_kinds(seed):
    chance = random.Random(seed)
    kinds = ["begin", "recipe", "recipe", "recipe"]
    kinds += chance.choices(list(OFTEN), weights=list(OFTEN.values()), k=236 - len(KINDS)) + list(KINDS)
    return kinds


class AgainstTheModel(unittest.TestCase):
    def check_line(self, seed, names, seen):
        chooser = Chooser(seed, names)
        kinds = chosen_kinds(seed)
        self.assertEqual((len(kinds), set(kinds)), (240, set(KINDS)))
        calls, expected = zip(*[chooser.call(kind) for kind in kinds])
        flat = helper.joined(calls)
        self.assertLessEqual(len(flat), 17000)
        copied = list(flat)
        found = helper.parted(answers(flat))
        self.assertEqual(flat, copied)
        for k, kind in enumerate(kinds):
            self.assertEqual(found[k], expected[k], "seed %d, call %d: %s %s" % (seed, k, kind, calls[k]))
            seen.add((kind, found[k][0] if found[k][0] < 0 and len(found[k]) == 1 else "answered"))

    def test_lines_of_240_calls_of_all_kinds(self):
        seen = set()
        for seed in range(60):
            names = (("a",), ("a", "b"), ("a", "b", "c"), ("a", "b", "c", "dd", "e5"))[seed % 4]
            self.check_line(seed, names, seen)
        wanted = {(kind, "answered") for kind in KINDS}
        wanted |= {("begin", -5), ("recipe", -5), ("recipe", -6), ("use", -2), ("use", -3), ("use", -4), ("use", -5),
                   ("back", -8), ("show", -2), ("exchange", -2), ("exchange", -3), ("net", -5), ("reach", -5),
                   ("reach", -7), ("follow", -2), ("follow", -3), ("follow", -5), ("weigh", -1), ("weigh", -2),
                   ("need", -2)}
        self.assertEqual(wanted - seen, set())
