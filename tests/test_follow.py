"""Promise 12: follow."""

from tests.helper import FAR, Case, back, begin, follow, in_stock, plan, recipe, run, stock, told, use, used

AHEAD = [begin("a b a b"), recipe("a*b -o c*c"), recipe("c*a -o a"), recipe("b -o b"), recipe("d -o a")]


class Follow(Case):
    def test_the_empty_list(self):
        self.assertEqual(run(follow(), plan()), [[0], [0]])
        self.assertEqual(run(*AHEAD, follow(), use(2, 3), follow(), plan())[5:], [[0], [4, 1], [1], used((2, 3))])

    def test_the_empty_list_behind_ten_uses(self):
        ten = [begin("a"), recipe("a -o a"), follow(*[0] * 10)]
        self.assertEqual(run(*ten, follow(), follow(0))[2:], [[10], [10], [-5]])

    def test_the_units_with_the_least_numbers(self):
        found = run(*AHEAD, follow(0), plan(), stock())
        self.assertEqual(found[5:], [[1], used((0, 0, 1)), in_stock((2, "a"), (3, "b"), (4, "c"), (5, "c"))])

    def test_a_name_that_is_taken_several_times(self):
        found = run(begin("b a b a a b"), recipe("a*b*a*b -o c"), follow(0), plan(), stock())
        self.assertEqual(found[2:], [[1], used((0, 1, 0, 3, 2)), in_stock((4, "a"), (5, "b"), (6, "c"))])

    def test_names_are_taken_in_the_order_of_the_recipe(self):
        found = run(begin("a b c a b c"), recipe("c*a*c*b -o d"), follow(0), plan())
        self.assertEqual(found[2:], [[1], used((0, 2, 0, 5, 1))])

    def test_units_that_are_gone_are_passed_over(self):
        found = run(begin("a a a"), recipe("a -o b"), use(0, 0), follow(0), plan(), stock())
        self.assertEqual(found[3:], [[2], used((0, 0), (0, 1)), in_stock((2, "a"), (3, "b"), (4, "b"))])

    def test_older_units_come_ahead_of_new_ones(self):
        found = run(begin("a a"), recipe("a -o a*a"), follow(0, 0, 0), plan(), stock())
        self.assertEqual(found[2:], [[3], used((0, 0), (0, 1), (0, 2)), in_stock(*[(k, "a") for k in range(3, 8)])])

    def test_units_with_two_digits(self):
        found = run(begin("b b b b b b b b b a"), recipe("a -o a*a"), follow(0, 0, 0), plan())
        self.assertEqual(found[2:], [[3], used((0, 9), (0, 10), (0, 11))])

    def test_recipes_use_what_earlier_ones_gave(self):
        found = run(*AHEAD, follow(0, 1, 0), plan(), stock())
        self.assertEqual(found[5:], [[3], used((0, 0, 1), (1, 4, 2), (0, 6, 3)),
                                     in_stock((5, "c"), (7, "c"), (8, "c"))])

    def test_behind_the_uses_that_are_there(self):
        found = run(*AHEAD, use(0, 2, 3), follow(1, 2), follow(2), plan())
        self.assertEqual(found[5:], [[4, 2], [3], [4], used((0, 2, 3), (1, 4, 0), (2, 1), (2, 7))])

    def test_back_takes_one_use_back_and_not_the_course(self):
        found = run(*AHEAD, follow(2, 2, 0), back(), plan(), stock())
        self.assertEqual(found[5:], [[3], [2], used((2, 1), (2, 3)),
                                     in_stock((0, "a"), (2, "a"), (4, "b"), (5, "b"))])

    def test_units_behind_told(self):
        found = run(begin("a a"), recipe("a -o b"), recipe("b -o c"), use(0, 1), use(0, 0), told(), follow(1), plan())
        self.assertEqual(found[5:], [[2], [3], used((0, 0), (0, 1), (1, 2))])

    def test_numbers_of_no_recipe(self):
        for number in (4, 5, 12, -1, -2, -4, -5, FAR, -FAR):
            for course in ((number,), (0, number), (number, 0), (0, 2, number, 2), (number,) * 100):
                with self.subTest(course=course):
                    self.check_refused(AHEAD, follow(*course), -2)
        self.check_refused([begin("a")], follow(0), -2)

    def test_ten_uses_and_eleven(self):
        self.assertEqual(run(*AHEAD, follow(*[2] * 10))[5], [10])
        self.check_refused(AHEAD, follow(*[2] * 11), -5)
        self.check_refused(AHEAD, follow(*[2] * 100), -5)
        self.assertEqual(run(*AHEAD, follow(*[2] * 7), follow(2, 2, 2))[6], [10])
        self.check_refused(AHEAD + [follow(*[2] * 7)], follow(2, 2, 2, 2), -5)
        self.check_refused(AHEAD + [follow(*[2] * 10)], follow(2), -5)

    def test_recipes_that_cannot_be_done(self):
        self.check_refused(AHEAD, follow(3), -3)
        self.check_refused(AHEAD, follow(1), -3)
        self.check_refused([begin("a"), recipe("a*a -o b")], follow(0), -3)
        self.check_refused([recipe("a -o b")], follow(0), -3)
        self.check_refused([begin("aa a1"), recipe("a -o b")], follow(0), -3)

    def test_refused_at_the_second_or_third_or_last_recipe(self):
        self.check_refused(AHEAD, follow(0, 3), -3)
        self.check_refused(AHEAD, follow(0, 0, 0), -3)
        self.check_refused(AHEAD, follow(0, 0, 1), -3)
        self.check_refused(AHEAD, follow(2, 2, 2, 2, 2, 2, 2, 2, 2, 3), -3)
        self.check_refused(AHEAD + [use(2, 3), follow(0)], follow(0, 0, 2), -3)

    def test_a_refused_course_takes_no_numbers_and_no_room(self):
        found = run(*AHEAD, follow(0, 2, 3), follow(0, 2, 3), use(0, 0, 1), follow(*[2] * 9), follow(2))
        self.assertEqual(found[5:], [[-3], [-3], [4, 2], [10], [-5]])

    def test_refusals_in_their_order(self):
        self.check_refused(AHEAD, follow(3, 4), -2)
        self.check_refused(AHEAD, follow(*[2] * 11, 4), -2)
        self.check_refused(AHEAD, follow(*[3] * 11), -5)
        self.check_refused(AHEAD, follow(*[3] * 10, -1), -2)
        self.check_refused(AHEAD + [follow(*[2] * 10)], follow(3), -5)
        self.check_refused(AHEAD + [follow(*[2] * 10)], follow(4), -2)
