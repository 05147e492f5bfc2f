"""Promises 5, 6, 7 and 14: stock, plan, show and need."""

from tests.helper import (FAR, Case, back, begin, exchange, follow, in_stock, need, net, plan, reach, recipe, run, show,
                          shown, stock, told, use, weigh)

LOOKS = [stock(), plan(), show(0), need(0), show(5), need(5), net(), reach("b c"), reach("c "), weigh("a b", 1, 2),
         weigh("a", 1, 2)]


class Stock(Case):
    def test_new_object(self):
        self.assertEqual(run(stock()), [[0]])

    def test_numbers_lengths_and_names(self):
        self.assertEqual(run(begin("zz a1b2c3d4e5f6"), stock())[1],
                         [2, 0, 2, 122, 122, 1, 12, 97, 49, 98, 50, 99, 51, 100, 52, 101, 53, 102, 54])

    def test_rising_numbers_with_gaps(self):
        found = run(begin("a b a b"), recipe("b*a -o a"), use(0, 3, 0), stock())
        self.assertEqual(found[3], in_stock((1, "b"), (2, "a"), (4, "a")))

    def test_rising_numbers_of_two_digits(self):
        found = run(begin("a a a a a a a a a a"), recipe("a -o b*b"), use(0, 9), use(0, 0), stock())
        self.assertEqual(found[4], in_stock(*[(k, "a") for k in range(1, 9)], *[(k, "b") for k in range(10, 14)]))


class Plan(Case):
    def test_new_object(self):
        self.assertEqual(run(plan()), [[0]])

    def test_uses_in_order_with_units_in_order(self):
        found = run(begin("a b a b"), recipe("b*a -o a*b*c"), recipe("c -o a"), use(0, 3, 0), use(1, 6), use(0, 1, 7),
                    plan())
        self.assertEqual(found[3:], [[4, 3], [7, 1], [8, 3], [3, 0, 2, 3, 0, 1, 1, 6, 0, 2, 1, 7]])

    def test_refused_uses_are_not_there(self):
        found = run(begin("a"), recipe("a -o b"), use(0, 1), use(1, 0), use(0, 0), use(0, 0), plan())
        self.assertEqual(found[2:], [[-3], [-2], [1, 1], [-3], [1, 0, 1, 0]])


class Show(Case):
    def test_form(self):
        found = run(recipe("(a*b )*a-o  z9"), recipe("~x|(y*(y*y))"), show(0), show(1))
        self.assertEqual(found[2:], [shown("a*b*a -o z9"), shown("x -o y*y*y")])

    def test_longest_form(self):
        names = ["abcdefghijk%s" % sign for sign in "abcdef"]
        form = "*".join(names) + " -o " + "*".join(reversed(names))
        self.assertEqual(run(recipe(form), show(0)), [[0], shown(form)])

    def test_numbers_of_no_recipe(self):
        ahead = [recipe("a -o b"), recipe("b -o a")]
        for number in (2, -1, -2, -3, 12, FAR, -FAR):
            with self.subTest(number=number):
                self.check_refused(ahead, show(number), -2)
        self.check_refused([begin("a")], show(0), -2)


class Need(Case):
    def test_names_lacking_are_counted_as_often_as_they_lack(self):
        recipes = [recipe("a -o z"), recipe("a*a -o z"), recipe("a*b*a*c*a*b -o z"), recipe("d*e*d -o z"),
                   recipe("b*c*b -o z")]
        cases = {
            "": [1, 2, 6, 3, 3],
            "a": [0, 1, 5, 3, 3],
            "a a": [0, 0, 4, 3, 3],
            "a a a a a": [0, 0, 3, 3, 3],
            "b b b a": [0, 1, 3, 3, 1],
            "a b a c a b": [0, 0, 0, 3, 0],
            "e d": [1, 2, 6, 1, 3],
            "z aa a1": [1, 2, 6, 3, 3],
        }
        for names, expected in cases.items():
            with self.subTest(names=names):
                found = run(begin(names), *recipes, *[need(k) for k in range(5)])
                self.assertEqual(found[6:], [[lacking] for lacking in expected])

    def test_new_object(self):
        self.assertEqual(run(recipe("a*a*b*b*c*c -o d"), need(0)), [[0], [6]])

    def test_the_stock_as_it_is_then(self):
        found = run(begin("a a"), recipe("a -o b"), recipe("a*a*b -o c"), need(1), use(0, 0), need(1), use(0, 1),
                    need(1), back(), need(1), begin("b a a"), need(1), use(1, 1, 2, 0), need(1))
        self.assertEqual(found[3:], [[1], [2, 1], [1], [3, 1], [2], [1], [1], [3], [0], [3, 1], [3]])

    def test_a_stock_that_has_enough_or_some_or_none(self):
        calls = [begin("a a b"), recipe("a*b -o c"), recipe("a -o b"), recipe("c*b*c*a -o d")]
        found = run(*calls, need(0), need(2), follow(0), need(0), need(2), follow(1), exchange(0), need(0), need(2))
        self.assertEqual(found[4:], [[0], [2], [1], [1], [2], [2], [2], [1], [2]])

    def test_numbers_of_no_recipe(self):
        ahead = [begin("a"), recipe("a -o b"), recipe("b -o a")]
        for number in (2, -1, -2, -3, 12, FAR, -FAR):
            with self.subTest(number=number):
                self.check_refused(ahead, need(number), -2)
        self.check_refused([begin("a")], need(0), -2)


class Looking(Case):
    def test_looking_changes_nothing(self):
        calls = [begin("a a b"), recipe("a*b -o c"), recipe("a -o b"), use(1, 0), back(), use(0, 0, 2), use(1, 1),
                 exchange(0), told(), back(), follow(1)]
        plain = run(*calls, *LOOKS)
        looked = []
        for call in calls:
            looked += LOOKS + [call]
        found = run(*looked, *LOOKS, *LOOKS)
        count = len(LOOKS)
        self.assertEqual(found[-count:], plain[-count:])
        self.assertEqual(found[-2 * count:-count], plain[-count:])
        self.assertEqual(found[count::count + 1][:len(calls)], plain[:len(calls)])
