"""Promise 4: back."""

from tests.helper import Case, back, begin, in_stock, plan, recipe, run, show, shown, stock, use

AHEAD = [begin("a b a"), recipe("a*b -o c*c"), recipe("a -o b"), recipe("c -o a")]


class Back(Case):
    def test_no_use(self):
        self.check_refused([], back(), -8)
        self.check_refused(AHEAD, back(), -8)
        self.check_refused(AHEAD + [use(1, 0), back()], back(), -8)

    def test_the_last_use_alone(self):
        told = run(*AHEAD, use(0, 2, 1), use(1, 0), back(), stock(), plan(), back(), stock(), plan(), show(0))
        self.assertEqual(told[6:], [
            [1], in_stock((0, "a"), (3, "c"), (4, "c")), [1, 0, 2, 2, 1],
            [0], in_stock((0, "a"), (1, "b"), (2, "a")), [0], shown("a*b -o c*c"),
        ])

    def test_units_that_it_took_are_there_again_under_their_numbers(self):
        told = run(*AHEAD, use(0, 0, 1), use(2, 3), back(), use(2, 3), back(), use(2, 4))
        self.assertEqual(told[4:], [[3, 2], [5, 1], [1], [5, 1], [1], [5, 1]])

    def test_new_units_have_the_numbers_of_those_taken_back(self):
        told = run(*AHEAD, use(0, 0, 1), back(), use(1, 2), stock(), use(0, 0, 3), stock())
        self.assertEqual(told[4:], [
            [3, 2], [0], [3, 1], in_stock((0, "a"), (1, "b"), (3, "b")),
            [4, 2], in_stock((1, "b"), (4, "c"), (5, "c")),
        ])

    def test_units_that_it_gave_are_gone(self):
        told = run(*AHEAD, use(0, 0, 1), back(), use(2, 3))
        self.assertEqual(told[4:], [[3, 2], [0], [-3]])

    def test_back_makes_room_for_another_use(self):
        ten = [begin("a"), recipe("a -o a")] + [use(0, k) for k in range(10)]
        told = run(*ten, use(0, 10), back(), use(0, 9), use(0, 10))
        self.assertEqual(told[12:], [[-5], [9], [10, 1], [-5]])

    def test_all_the_way_back(self):
        ten = [begin("a"), recipe("a -o a")] + [use(0, k) for k in range(10)]
        told = run(*ten, *[back()] * 11, stock())
        self.assertEqual(told[12:], [[k] for k in range(9, -1, -1)] + [[-8], in_stock((0, "a"))])
