"""Promise 3: use."""

from tests.helper import FAR, Case, begin, in_stock, last, plan, recipe, run, stock, use

AHEAD = [begin("a a b c"), recipe("a*b -o c*d"), recipe("a -o b"), recipe("b*a*b -o a")]


class Use(Case):
    def test_units_go_and_new_ones_come(self):
        told = run(*AHEAD, use(0, 1, 2), stock(), use(1, 0), stock())
        self.assertEqual(told[4:], [
            [4, 2], in_stock((0, "a"), (3, "c"), (4, "c"), (5, "d")),
            [6, 1], in_stock((3, "c"), (4, "c"), (5, "d"), (6, "b")),
        ])

    def test_units_that_an_earlier_use_gave(self):
        told = run(*AHEAD, use(1, 0), use(0, 1, 4), use(1, 0), stock())
        self.assertEqual(told[4:], [[4, 1], [5, 2], [-3], in_stock((2, "b"), (3, "c"), (5, "c"), (6, "d"))])

    def test_the_same_name_taken_several_times(self):
        told = run(begin("b a b a"), recipe("b*a*b -o a"), use(0, 2, 3, 0), stock(), plan())
        self.assertEqual(told[2:], [[4, 1], in_stock((1, "a"), (4, "a")), [1, 0, 3, 2, 3, 0]])

    def test_all_that_a_recipe_gives_in_order(self):
        told = run(begin("x"), recipe("x -o f*e*d*c*b*a"), use(0, 0), stock())
        self.assertEqual(told[2:], [[1, 6], in_stock((1, "f"), (2, "e"), (3, "d"), (4, "c"), (5, "b"), (6, "a"))])

    def test_numbers_of_no_recipe(self):
        for number in (3, -1, -2, -3, -4, 12, FAR, -FAR):
            with self.subTest(number=number):
                self.check_refused(AHEAD, use(number, 0), -2)
        self.assertEqual(last(begin("a"), use(0, 0)), [-2])

    def test_as_many_units_as_names(self):
        for units in ((), (0,), (0, 2, 1), (0, 2, 2), tuple(range(100))):
            with self.subTest(units=units):
                self.check_refused(AHEAD, use(0, *units), -3)

    def test_numbers_of_no_unit(self):
        for unit in (4, 5, 100, -1, -2, -3, -4, FAR, -FAR):
            with self.subTest(unit=unit):
                self.check_refused(AHEAD, use(1, unit), -3)
                self.check_refused(AHEAD, use(0, 0, unit), -3)
                self.check_refused(AHEAD, use(0, unit, 2), -3)

    def test_units_that_have_gone(self):
        self.check_refused(AHEAD + [use(0, 0, 2)], use(1, 0), -3)
        self.check_refused(AHEAD + [use(0, 0, 2)], use(0, 1, 2), -3)
        self.check_refused(AHEAD + [use(1, 0), use(0, 1, 4)], use(0, 0, 4), -3)

    def test_a_unit_told_twice(self):
        self.check_refused(AHEAD, use(2, 2, 0, 2), -3)
        self.check_refused([begin("a a"), recipe("a*a -o a")], use(0, 1, 1), -3)
        self.check_refused(AHEAD, use(0, 0, 0), -3)

    def test_units_of_another_name(self):
        self.check_refused(AHEAD, use(0, 2, 0), -4)
        self.check_refused(AHEAD, use(0, 0, 1), -4)
        self.check_refused(AHEAD, use(1, 3), -4)
        self.check_refused([begin("b b a"), recipe("b*a*b -o a")], use(0, 0, 1, 2), -4)

    def test_names_are_told_apart_whole(self):
        self.check_refused([begin("aa a1 ab"), recipe("a -o b")], use(0, 0), -4)
        self.check_refused([begin("aa a1 ab"), recipe("a -o b")], use(0, 1), -4)
        self.check_refused([begin("a"), recipe("aa -o b")], use(0, 0), -4)

    def test_ten_uses_and_eleven(self):
        ten = [begin("a b"), recipe("a -o a"), recipe("b -o b")]
        numbers = [0] + list(range(2, 12))
        told = run(*ten, *[use(0, k) for k in numbers])
        self.assertEqual(told[3:], [[k, 1] for k in range(2, 12)] + [[-5]])
        self.check_refused(ten + [use(0, k) for k in numbers[:10]], use(1, 1), -5)

    def test_refusals_in_their_order(self):
        ten = [begin("a b"), recipe("a -o a")] + [use(0, k) for k in [0] + list(range(2, 11))]
        self.check_refused(ten, use(1, 0), -2)
        self.check_refused(ten, use(-1, 11), -2)
        self.check_refused(ten, use(0, 0), -5)
        self.check_refused(ten, use(0), -5)
        self.check_refused(ten, use(0, 1), -5)
        self.check_refused(AHEAD, use(3), -2)
        self.check_refused(AHEAD, use(0, 3, 9), -3)
        self.check_refused(AHEAD, use(0, 9, 3), -3)
        self.check_refused(AHEAD, use(0, 3, 3), -3)
        self.check_refused(AHEAD, use(0, 3), -3)
        self.check_refused(AHEAD, use(1, 2, 2), -3)

    def test_refused_uses_take_no_numbers(self):
        told = run(*AHEAD, use(0, 2, 0), use(0, 0), use(9, 0), use(1, 1))
        self.assertEqual(told[4:], [[-4], [-3], [-2], [4, 1]])

    def test_as_many_units_as_there_can_be(self):
        calls = [begin("a a a a a a a a a a"), recipe("a -o a*a*a*a*a*a")]
        told = run(*calls, *[use(0, k) for k in range(10)], stock())
        self.assertEqual(told[2:12], [[10 + 6 * k, 6] for k in range(10)])
        self.assertEqual(told[12], in_stock(*[(k, "a") for k in range(10, 70)]))
