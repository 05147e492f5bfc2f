"""Promise 13: weigh."""

from tests.helper import (FAR, Case, back, begin, exchange, follow, in_stock, last, need, recipe, run, stock, use,
                          weigh)

AHEAD = [begin("a a b"), recipe("a*b -o c"), recipe("a -o b")]


class Weigh(Case):
    def check(self, calls, call, kept, weight):
        self.assertEqual(last(*calls, call), [kept, weight])

    def test_no_names_and_no_weights(self):
        self.check([], weigh(""), 1, 0)
        self.check(AHEAD, weigh(""), 1, 0)

    def test_kept_and_not_kept(self):
        self.check(AHEAD, weigh("a b c", 1, 1, 2), 1, 3)
        self.check(AHEAD, weigh("c b a", 2, 1, 1), 1, 3)
        self.check(AHEAD, weigh("a b c", 1, 1, 1), 0, 3)
        self.check(AHEAD, weigh("a b c", 1, 2, 3), 0, 4)
        self.check(AHEAD, weigh("a b c", 5, 5, 10), 1, 15)
        self.check(AHEAD, weigh("a b c", 0, 0, 0), 1, 0)

    def test_each_recipe_counts(self):
        recipes = ["a -o b", "b -o c", "c*c -o d"]
        for broken, weights in enumerate(((2, 1, 1, 2), (1, 1, 2, 4), (1, 1, 1, 1))):
            with self.subTest(broken=recipes[broken]):
                self.check([recipe(text) for text in recipes], weigh("a b c d", *weights), 0, 0)
                others = [recipe(text) for text in recipes if text != recipes[broken]]
                self.check(others, weigh("a b c d", *weights), 1, 0)

    def test_names_count_as_often_as_they_stand(self):
        self.check([recipe("a*a*a -o b*a")], weigh("a b", 1, 2), 1, 0)
        self.check([recipe("a*a*a -o b*a")], weigh("a b", 1, 1), 0, 0)
        self.check([begin("a b a a")], weigh("a b", 10, 1), 1, 31)

    def test_names_without_a_weight_weigh_nothing(self):
        self.check(AHEAD, weigh("b", 1), 0, 1)
        self.check(AHEAD, weigh("c", 7), 0, 0)
        self.check([begin("a b"), recipe("b -o c*c")], weigh("a", 5), 1, 5)
        self.check([begin("a b c"), recipe("a -o a*b")], weigh("a c", 1, 4), 1, 5)

    def test_names_that_are_nowhere(self):
        self.check(AHEAD, weigh("z", 9), 1, 0)
        self.check(AHEAD, weigh("z a aa b c", 9, 1, 9, 1, 2), 1, 3)
        self.check([], weigh("a b", 3, 4), 1, 0)

    def test_names_of_the_stock_that_are_in_no_recipe(self):
        self.check(AHEAD + [begin("z a z")], weigh("a b c z", 1, 1, 2, 100), 1, 201)

    def test_no_recipes(self):
        self.check([begin("a b")], weigh("a b", 3, 4), 1, 7)

    def test_weights_below_0(self):
        self.check(AHEAD, weigh("a b c", -1, -1, -2), 1, -3)
        self.check([begin("a"), recipe("a*b -o a*c"), recipe("a*b -o d")], weigh("a b c d", 3, -5, -5, -2), 1, 3)
        self.check([begin("b"), recipe("a*b -o c")], weigh("a b", 8, -8), 1, -8)
        self.check([begin("a")], weigh("a", -1), 1, -1)
        self.check([begin("a"), recipe("a -o b")], weigh("a", -8), 0, -8)

    def test_weights_at_the_ends_of_their_range(self):
        self.check([begin("a a a a a a a a a a")], weigh("a", FAR), 1, 10 * FAR)
        self.check([begin("a a a a a a a a a a")], weigh("a", -FAR), 1, -10 * FAR)
        self.check([begin("a b"), recipe("a*b -o c")], weigh("a b", FAR, -FAR), 1, 0)
        self.check([begin("a b"), recipe("a*b -o c")], weigh("a b", FAR, 1 - FAR), 0, 1)
        self.check([begin("a"), recipe("a*a*a*a*a*a -o b*b*b*b*b*b")], weigh("a b", FAR, FAR - 1), 0, FAR)
        sixty = [begin("a a a a a a a a a a"), recipe("a -o b*b*b*b*b*b"), follow(*[0] * 10)]
        self.check(sixty, weigh("b", FAR), 0, 60 * FAR)

    def test_the_stock_behind_uses(self):
        found = run(*AHEAD, weigh("a b c", 1, 10, 100), use(0, 0, 2), weigh("a b c", 1, 10, 100), use(1, 1),
                    weigh("a b c", 1, 10, 100), exchange(0), weigh("a b c", 1, 10, 100), back(),
                    weigh("a b c", 1, 10, 100), begin("c"), weigh("a b c", 1, 10, 100))
        self.assertEqual(found[3::2], [[0, 12], [0, 101], [0, 110], [0, 110], [0, 21], [0, 100]])

    def test_weights_are_told_anew_each_time(self):
        found = run(*AHEAD, weigh("a b c", 1, 1, 2), weigh("a", 1), weigh(""), recipe("c -o d"),
                    weigh("a b c", 1, 1, 2), weigh("a b c d", 1, 1, 2, 2))
        self.assertEqual(found[3:], [[1, 3], [0, 2], [1, 0], [2], [0, 3], [1, 3]])

    def test_weigh_changes_nothing(self):
        found = run(*AHEAD, weigh("a b c", 1, 1, 2), stock(), need(0), use(0, 0, 2), need(0))
        self.assertEqual(found[4:], [in_stock((0, "a"), (1, "a"), (2, "b")), [0], [3, 1], [1]])

    def test_no_names(self):
        for text in (" ", " a", "a ", "a  b", "1", "A", "a,b", "a b ~", "abcdefghijklm", [97, 0], [200], [97, 10, 98]):
            for weights in ((), (1,), (1, 2)):
                with self.subTest(text=text, weights=weights):
                    self.check_refused(AHEAD, weigh(text, *weights), -1)

    def test_a_name_twice(self):
        for text in ("a a", "a b a", "z z", "a b c d e a", "b a1 a1"):
            count = len(text.split(" "))
            for weights in ([1] * count, [1] * (count - 1), [], [1] * 100):
                with self.subTest(text=text, weights=weights):
                    self.check_refused(AHEAD, weigh(text, *weights), -1)

    def test_names_that_begin_alike_are_not_one(self):
        self.check([begin("a aa a1 a")], weigh("a aa a1", 1, 10, 100), 1, 112)

    def test_as_many_weights_as_names(self):
        self.check_refused(AHEAD, weigh("", 1), -2)
        self.check_refused(AHEAD, weigh("a"), -2)
        self.check_refused(AHEAD, weigh("a b c", 1, 1), -2)
        self.check_refused(AHEAD, weigh("a b c", 1, 1, 2, 0), -2)
        self.check_refused(AHEAD, weigh("z", *[0] * 100), -2)

    def test_a_hundred_names_and_more(self):
        names = ["n%d" % k for k in range(101)]
        self.check([begin("n0 n99 n99")], weigh(" ".join(names[:100]), *range(1, 101)), 1, 201)
        self.check_refused(AHEAD, weigh(" ".join(names), *range(100)), -2)
        many = " ".join("n%d" % k for k in range(700))
        self.check_refused(AHEAD, weigh(many, *range(100)), -2)
        self.check_refused(AHEAD, weigh(many + " n5", *range(100)), -1)
