"""Promise 9: told."""

import random

from tests.helper import (Case, back, begin, exchange, follow, in_stock, net, plan, recipe, run, show, shown, stock,
                          told, use, used)
from tests.model import Model

# In the plan the use of unit 3 comes first; what it gives is taken by the uses behind it.
AHEAD = [begin("a b c a"), recipe("a -o x*y"), recipe("b*x -o z"), recipe("c -o w*w*w"), recipe("y*w -o v")]
MOVED = AHEAD + [use(0, 3), use(2, 2), use(1, 1, 4), use(0, 0), use(3, 11, 7)]


class Told(Case):
    def test_no_uses(self):
        self.assertEqual(run(told(), plan(), stock()), [[0], [0], [0]])
        self.assertEqual(run(*AHEAD, told(), plan(), stock())[5:],
                         [[0], [0], in_stock((0, "a"), (1, "b"), (2, "c"), (3, "a"))])

    def test_one_use(self):
        self.assertEqual(run(*AHEAD, use(0, 3), told(), plan())[6:], [[0], used((0, 3))])

    def test_a_plan_in_its_told_order_already(self):
        calls = [begin("a a b"), recipe("a*b -o c"), recipe("a -o b"), use(0, 0, 2), use(1, 1)]
        looks = [plan(), stock(), net()]
        found = run(*calls, *looks, told(), *looks)
        self.assertEqual(found[8], [0])
        self.assertEqual(found[5:8], found[9:12])

    def test_two_uses_the_wrong_way_round(self):
        found = run(begin("a a"), recipe("a -o b*b"), recipe("a -o c"), use(0, 1), use(1, 0), told(), plan(), stock())
        self.assertEqual(found[5:], [[2], used((1, 0), (0, 1)), in_stock((2, "c"), (3, "b"), (4, "b"))])

    def test_uses_that_take_units_of_uses_that_move(self):
        found = run(*MOVED, plan(), stock(), told(), plan(), stock(), net())
        self.assertEqual(found[10:], [
            used((0, 3), (2, 2), (1, 1, 4), (0, 0), (3, 11, 7)),
            in_stock((5, "y"), (6, "w"), (8, "w"), (9, "z"), (10, "x"), (12, "v")),
            # First (0, 0); then (2, 2), as the use of unit 1 waits for that of unit 3; then (0, 3), as (3, 5, 7) has
            # the greater list; then (1, 1, 9), which has become ready.
            [3],
            used((0, 0), (2, 2), (0, 3), (1, 1, 9), (3, 5, 7)),
            in_stock((4, "x"), (6, "w"), (8, "w"), (10, "y"), (11, "z"), (12, "v")),
            shown("~a, ~b, ~c, ~a, a*(~x|~y), c*(~w|~w|~w), a*(~x|~y), (b*x)*~z, (y*w)*~v, x*w*w*y*z*v ;  ; "
                  "0-4 1-14 2-7 3-11 5-20 6-17 8-21 9-18 10-22 12-15 13-23 16-24 19-25"),
        ])

    def test_the_first_unit_of_the_list_decides_and_not_the_least(self):
        calls = [begin("a b b a"), recipe("b*a -o c"), use(0, 2, 0), use(0, 1, 3)]
        self.assertEqual(run(*calls, told(), plan())[4:], [[2], used((0, 1, 3), (0, 2, 0))])

    def test_neither_length_nor_recipe_decides(self):
        calls = [begin("a a a a"), recipe("a -o b"), recipe("a*a*a -o c"), use(0, 3), use(1, 1, 2, 0)]
        self.assertEqual(run(*calls, told(), plan())[5:], [[2], used((1, 1, 2, 0), (0, 3))])

    def test_numbers_of_two_digits_are_compared_as_numbers(self):
        calls = [begin("a a a a a a a a a a"), recipe("a -o b*b"), recipe("b -o c")]
        calls += [use(0, 9), use(0, 8), use(1, 13), use(1, 10), use(0, 2)]
        # 2 comes first, then 8, then 9; the b of 9 is unit 14 then, and the second b of 8 unit 13.
        self.assertEqual(run(*calls, told(), plan())[8:], [[4], used((0, 2), (0, 8), (0, 9), (1, 13), (1, 14))])

    def test_lists_are_of_the_numbers_in_the_new_order(self):
        calls = [begin("a a"), recipe("a -o b"), recipe("b -o c"), use(0, 1), use(0, 0), use(1, 2), use(1, 3)]
        # The b of unit 0 had the number 3 and has 2 in the new order, so its use comes first of the two.
        self.assertEqual(run(*calls, told(), plan())[7:], [[4], used((0, 0), (0, 1), (1, 2), (1, 3))])

    def test_a_use_that_becomes_ready_comes_at_once_if_its_list_is_the_least(self):
        calls = [begin("b a a"), recipe("a -o c"), recipe("b*c -o d"), use(0, 1), use(0, 2), use(1, 0, 3)]
        self.assertEqual(run(*calls, told(), plan(), stock())[6:],
                         [[2], used((0, 1), (1, 0, 3), (0, 2)), in_stock((4, "d"), (5, "c"))])

    def test_only_uses_at_another_place_are_counted(self):
        calls = [begin("a a a a a"), recipe("a -o b")]
        orders = {(0, 1, 2, 3, 4): 0, (1, 0, 2, 3, 4): 2, (0, 1, 2, 4, 3): 2, (1, 0, 2, 4, 3): 4, (4, 1, 2, 3, 0): 2,
                  (1, 2, 3, 4, 0): 5, (4, 3, 2, 1, 0): 4, (0, 3, 1, 2, 4): 3}
        for order, moved in orders.items():
            with self.subTest(order=order):
                found = run(*calls, *[use(0, k) for k in order], told(), plan())
                self.assertEqual(found[7:], [[moved], used(*[(0, k) for k in range(5)])])

    def test_ten_uses(self):
        calls = [begin("a a a a a a a a a a"), recipe("a -o b")] + [use(0, k) for k in range(9, -1, -1)]
        self.assertEqual(run(*calls, told(), plan())[12:], [[10], used(*[(0, k) for k in range(10)])])

    def test_a_chain_cannot_move(self):
        calls = [begin("a"), recipe("a -o a*a")] + [use(0, 2 * k) for k in range(10)]
        self.assertEqual(run(*calls, told(), plan())[12:], [[0], used(*[(0, 2 * k) for k in range(10)])])

    def test_told_twice(self):
        looks = [plan(), stock(), net()]
        found = run(*MOVED, told(), *looks, told(), *looks)
        self.assertEqual(found[10], [3])
        self.assertEqual(found[14], [0])
        self.assertEqual(found[11:14], found[15:18])

    def test_what_comes_behind_goes_on_from_the_told_order(self):
        found = run(*MOVED, told(), back(), use(3, 10, 6), plan(), exchange(0), plan(), show(0))
        self.assertEqual(found[10:], [
            [3], [4], [12, 1], used((0, 0), (2, 2), (0, 3), (1, 1, 9), (3, 10, 6)),
            [6], used((2, 2), (0, 0), (0, 3), (1, 1, 9), (3, 10, 4)), shown("a -o x*y"),
        ])

    def test_uses_that_follow_made(self):
        found = run(begin("a b"), recipe("a -o c"), recipe("b -o c"), recipe("c*c -o d"), follow(1, 0, 2), told(),
                    plan())
        self.assertEqual(found[4:], [[3], [2], used((0, 0), (1, 1), (2, 3, 2))])


def random_plan(seed, most):
    """The calls of some plan, and the model that holds it."""
    chance = random.Random(seed)
    model = Model()
    calls = []
    names = "abc"[:chance.randint(1, 3)]
    start = [chance.choice(names) for k in range(chance.randint(1, 8))]
    model.begin(start)
    calls.append(begin(" ".join(start)))
    for k in range(chance.randint(2, 5)):
        takes = [chance.choice(names) for k in range(chance.randint(1, 2))]
        gives = [chance.choice(names) for k in range(chance.randint(1, 3))]
        model.recipe(takes, gives)
        calls.append(recipe("*".join(takes) + " -o " + "*".join(gives)))
    for k in range(most):
        number = chance.randrange(len(model.recipes))
        there = list(zip(model.numbers(model.left()), model.left()))
        chance.shuffle(there)
        units = []
        for name in model.recipes[number][0]:
            units += [k for k, unit in there if unit.name == name and k not in units][:1]
        if len(units) == len(model.recipes[number][0]):
            model.use(number, units)
            calls.append(use(number, *units))
    return calls, model


def orders_of(model):
    """All orders of the plan's uses in which each is ready behind those ahead of it."""
    orders = [[]]
    for length in range(len(model.steps)):
        longer = []
        for order in orders:
            waiting = [step for step in model.steps if step not in order]
            longer += [order + [step] for step in waiting
                       if not any(model.depends(step, other) for other in waiting)]
        orders = longer
    return orders


def plan_in(model, order):
    other = Model()
    other.recipes, other.start, other.steps = model.recipes, model.start, order
    return other


class SamePlans(Case):
    """Plans that come of each other by exchanging independent neighbours."""

    def test_all_of_them_have_one_told_order(self):
        several = 0
        for seed in range(60):
            calls, model = random_plan(seed, 5)
            waiting, alike = [()], {}
            while waiting:
                steps = waiting.pop()
                found = run(*calls, *[exchange(k) for k in steps], plan(), told(), plan(), stock(), net())
                key = tuple(found[len(calls) + len(steps)])
                if key not in alike:
                    alike[key] = found[-3:]
                    independent = [k for k in range(len(model.steps) - 1)
                                   if run(*calls, *[exchange(k) for k in steps], exchange(k))[-1][0] >= 0]
                    waiting += [steps + (k,) for k in independent]
            self.assertEqual(len({str(behind) for behind in alike.values()}), 1, calls)
            self.assertEqual(len(alike), len(orders_of(model)), calls)
            several += len(alike) > 4
        self.assertGreater(several, 10)

    def test_the_told_order_has_the_least_lists_of_all(self):
        for seed in range(200):
            calls, model = random_plan(seed, 6)
            orders = orders_of(model)
            lists = [[plan_in(model, order).numbers(step.takes) for step in order] for order in orders]
            first = orders[lists.index(min(lists))]
            moved = sum(old is not new for old, new in zip(model.steps, first))
            expected = plan_in(model, first)
            self.assertEqual(run(*calls, told(), plan(), stock(), net())[len(calls):],
                             [[moved], expected.plan(), expected.stock(), expected.net()], calls)

    def test_exchange_twice_is_as_before(self):
        exchanged = 0
        for seed in range(100):
            calls, model = random_plan(seed, 9)
            looks = [plan(), stock(), net()]
            for k in range(len(model.steps) - 1):
                found = run(*calls, *looks, exchange(k), exchange(k), *looks)
                self.assertEqual(found[-3:], found[len(calls):len(calls) + 3])
                exchanged += found[-4][0] >= 0
        self.assertGreater(exchanged, 100)
