"""Promise 8: exchange."""

from tests.helper import (FAR, Case, back, begin, exchange, follow, in_stock, net, plan, recipe, run, show, shown,
                          stock, told, use, used)

# The first use gives three units, the second one; the later two take units of both.
AHEAD = [begin("a b c"), recipe("a -o x*y*z"), recipe("b -o w"), recipe("w*y -o v"), recipe("z*v*c -o u*u")]
FOUR = AHEAD + [use(0, 0), use(1, 1), use(2, 6, 4), use(3, 5, 7, 2)]


class Exchange(Case):
    def test_neighbours_that_give_different_numbers_of_units(self):
        found = run(*FOUR, plan(), stock(), exchange(0), plan(), stock(), net())
        self.assertEqual(found[9:], [
            used((0, 0), (1, 1), (2, 6, 4), (3, 5, 7, 2)), in_stock((3, "x"), (8, "u"), (9, "u")),
            [3],
            used((1, 1), (0, 0), (2, 3, 5), (3, 6, 7, 2)), in_stock((4, "x"), (8, "u"), (9, "u")),
            shown("~a, ~b, ~c, b*~w, a*(~x|~y|~z), (w*y)*~v, (z*v*c)*(~u|~u), x*u*u ;  ; "
                  "0-5 1-3 2-14 4-9 6-17 7-10 8-12 11-13 15-18 16-19"),
        ])

    def test_the_stock_has_as_many_units_as_before(self):
        found = run(*AHEAD, use(0, 0), use(1, 1), stock(), exchange(0), stock())
        self.assertEqual(found[7:], [
            in_stock((2, "c"), (3, "x"), (4, "y"), (5, "z"), (6, "w")), [5],
            in_stock((2, "c"), (3, "w"), (4, "x"), (5, "y"), (6, "z")),
        ])

    def test_the_order_of_a_uses_units_stays(self):
        found = run(begin("a a a a b"), recipe("a*a -o b*b"), recipe("b*a*a -o a"), use(0, 3, 0), use(1, 4, 2, 1),
                    exchange(0), plan(), stock())
        self.assertEqual(found[5:], [[3], used((1, 4, 2, 1), (0, 3, 0)), in_stock((5, "a"), (6, "b"), (7, "b"))])

    def test_neighbours_in_the_middle_and_at_the_end(self):
        calls = [begin("a a a a"), recipe("a -o b*b"), recipe("a -o c")]
        calls += [use(0, 0), use(1, 1), use(0, 2), use(1, 3)]
        found = run(*calls, exchange(1), plan(), stock(), exchange(2), plan(), stock())
        self.assertEqual(found[7:], [
            [6], used((0, 0), (0, 2), (1, 1), (1, 3)),
            in_stock((4, "b"), (5, "b"), (6, "b"), (7, "b"), (8, "c"), (9, "c")),
            [6], used((0, 0), (0, 2), (1, 3), (1, 1)),
            in_stock((4, "b"), (5, "b"), (6, "b"), (7, "b"), (8, "c"), (9, "c")),
        ])

    def test_a_use_goes_to_the_front_step_by_step(self):
        calls = [begin("a a a"), recipe("a -o b*b"), recipe("a -o c"), use(0, 0), use(0, 1), use(1, 2)]
        found = run(*calls, exchange(1), exchange(0), plan(), stock())
        self.assertEqual(found[6:], [
            [5], [5], used((1, 2), (0, 0), (0, 1)),
            in_stock((3, "c"), (4, "b"), (5, "b"), (6, "b"), (7, "b")),
        ])

    def test_twice_is_as_before(self):
        looks = [plan(), stock(), net()]
        found = run(*FOUR, *looks, exchange(0), *looks, exchange(0), *looks)
        before, between, after = found[9:12], found[13:16], found[17:20]
        self.assertNotEqual(before, between)
        self.assertEqual(before, after)

    def test_what_comes_behind_goes_on_from_the_new_order(self):
        found = run(*AHEAD, use(0, 0), use(1, 1), exchange(0), use(2, 3, 5), plan(), back(), back(), stock(), plan())
        self.assertEqual(found[7:], [
            [5], [7, 1], used((1, 1), (0, 0), (2, 3, 5)), [2], [1],
            in_stock((0, "a"), (2, "c"), (3, "w")), used((1, 1)),
        ])

    def test_recipes_and_beginning_stay(self):
        found = run(*FOUR, exchange(0), show(0), show(1), show(4), back(), back(), back(), back(), stock())
        self.assertEqual(found[10:13], [shown("a -o x*y*z"), shown("b -o w"), [-2]])
        self.assertEqual(found[17], in_stock((0, "a"), (1, "b"), (2, "c")))

    def test_no_uses_with_these_numbers(self):
        for k in (-1, -2, -3, -4, -5, 3, 4, 5, 9, 10, FAR, FAR - 1, -FAR):
            with self.subTest(k=k):
                self.check_refused(FOUR, exchange(k), -2)

    def test_no_uses_and_one_use(self):
        for k in (-1, 0, 1, FAR, -FAR):
            with self.subTest(k=k):
                self.check_refused([], exchange(k), -2)
                self.check_refused(AHEAD, exchange(k), -2)
                self.check_refused(AHEAD + [use(0, 0)], exchange(k), -2)

    def test_not_independent(self):
        self.check_refused(FOUR, exchange(1), -3)
        self.check_refused(FOUR, exchange(2), -3)

    def test_each_unit_that_the_first_gave(self):
        for unit in (1, 2, 3):
            with self.subTest(unit=unit):
                calls = [begin("a"), recipe("a -o b*b*b"), recipe("b -o c"), use(0, 0), use(1, unit)]
                self.check_refused(calls, exchange(0), -3)

    def test_one_unit_of_the_first_among_others(self):
        calls = [begin("a b b"), recipe("a -o b"), recipe("b*b*b -o c"), use(0, 0)]
        for units in ((1, 2, 3), (3, 2, 1), (1, 3, 2)):
            with self.subTest(units=units):
                self.check_refused(calls + [use(1, *units)], exchange(0), -3)

    def test_units_of_a_use_further_ahead_do_not_count(self):
        calls = [begin("a d"), recipe("a -o b*c"), recipe("b -o e"), recipe("c*d -o f"), use(0, 0), use(1, 2),
                 use(2, 3, 1)]
        found = run(*calls, exchange(1), plan(), stock(), exchange(0))
        self.assertEqual(found[7:], [[2], used((0, 0), (2, 3, 1), (1, 2)), in_stock((4, "f"), (5, "e")), [-3]])

    def test_ten_uses(self):
        calls = [begin("a a a a a a a a a a"), recipe("a -o b")] + [use(0, k) for k in range(10)]
        found = run(*calls, exchange(8), exchange(0), plan(), exchange(9))
        self.assertEqual(found[12:], [
            [10], [10], used(*[(0, k) for k in (1, 0, 2, 3, 4, 5, 6, 7, 9, 8)]), [-2],
        ])

    def test_uses_that_follow_made(self):
        found = run(begin("a a"), recipe("a -o b"), recipe("b*b -o c"), follow(0, 0, 1), exchange(0), plan(), stock(),
                    exchange(1), told(), plan())
        self.assertEqual(found[3:], [
            [3], [1], used((0, 1), (0, 0), (1, 3, 2)), in_stock((4, "c")), [-3],
            [2], used((0, 0), (0, 1), (1, 2, 3)),
        ])
