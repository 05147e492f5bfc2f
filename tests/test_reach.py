"""Promise 11: reach."""

from tests.helper import (Case, begin, exchange, follow, in_stock, last, plan, reach, recipe, run, show, shown, stock,
                          told, use, weigh)

AHEAD = [begin("a a b"), recipe("a*b -o c"), recipe("a -o b")]

# The a's become x, y or z and the b's l, m, n or o: 20 times 15 bags.
BAGS_300 = [begin("s a a a b b")] + [recipe("a -o " + name) for name in "xyz"]
BAGS_300 += [recipe("b -o " + name) for name in "lmno"]
ONE_MORE = recipe("s*a*a*a*b*b -o t")


class Reach(Case):
    def check(self, calls, names, *course):
        """None as the course says that there is none."""
        expected = [0, 0] if course == (None,) else [1, len(course)] + list(course)
        with self.subTest(names=names):
            self.assertEqual(last(*calls, reach(names)), expected)

    def test_the_documents_example(self):
        self.check(AHEAD, "b c", 0, 1)

    def test_the_empty_course(self):
        for names in ("a a b", "a b a", "b a a"):
            self.check(AHEAD, names)
        self.check([], "")
        self.check([begin("")], "")
        self.check([recipe("a -o b")], "")

    def test_no_recipes(self):
        self.check([begin("a b")], "b a")
        self.check([begin("a b")], "a", None)
        self.check([begin("a b")], "a b b", None)
        self.check([begin("a b")], "", None)
        self.check([], "a", None)

    def test_bags_count_and_not_orders(self):
        for names in ("b c", "c b"):
            self.check(AHEAD, names, 0, 1)
        for names in ("b b a", "a b b", "b a b"):
            self.check(AHEAD, names, 1)

    def test_each_name_just_as_often(self):
        self.check(AHEAD, "c", None)
        self.check(AHEAD, "c b b", None)
        self.check(AHEAD, "a b", None)
        self.check(AHEAD, "a a b b", None)
        self.check([begin("a a"), recipe("a -o b")], "a", None)
        self.check([begin("a a"), recipe("a -o b")], "b", None)
        self.check([begin("a a"), recipe("a -o b")], "b b", 0, 0)

    def test_nothing_is_reached_but_from_nothing(self):
        self.check(AHEAD, "", None)

    def test_names_that_are_nowhere(self):
        self.check(AHEAD, "z", None)
        self.check(AHEAD, "a a b z", None)

    def test_shorter_courses_come_first(self):
        calls = [begin("a"), recipe("a -o b"), recipe("b -o c"), recipe("a -o d"), recipe("d -o e"), recipe("a -o c")]
        self.check(calls, "c", 4)
        self.check(calls, "b", 0)
        self.check(calls, "e", 2, 3)

    def test_of_one_length_the_first_number_that_differs_decides(self):
        self.check([begin("a"), recipe("a -o b"), recipe("a -o b")], "b", 0)
        calls = [begin("a"), recipe("c -o d"), recipe("b -o d"), recipe("a -o b"), recipe("a -o c")]
        self.check(calls, "d", 2, 1)
        calls = [begin("a b"), recipe("b -o d"), recipe("a -o c"), recipe("a*b -o e"), recipe("e -o c*d")]
        self.check(calls, "c d", 0, 1)
        calls = [begin("a"), recipe("y -o z"), recipe("x -o z"), recipe("a -o x"), recipe("a -o y"), recipe("x -o y")]
        self.check(calls, "z", 2, 1)

    def test_the_least_course_to_a_bag_between_counts(self):
        # Two ways lead to the bag in the middle; what comes behind goes on from the first one.
        calls = [begin("a b"), recipe("e*d -o f"), recipe("b -o d"), recipe("a -o e"), recipe("f -o g")]
        self.check(calls, "g", 1, 2, 0, 3)

    def test_numbers_of_two_digits_are_compared_as_numbers(self):
        ten = [recipe("z -o z")] * 2 + [recipe("b -o d")] + [recipe("z -o z")] * 7
        self.check([begin("a b")] + ten + [recipe("a -o c")], "c d", 2, 10)

    def test_six_recipes_and_seven(self):
        calls = [recipe("a -o b")]
        self.check([begin("a a a a a a")] + calls, "b b b b b b", 0, 0, 0, 0, 0, 0)
        self.check([begin("a a a a a a a")] + calls, "a b b b b b b", 0, 0, 0, 0, 0, 0)
        self.check([begin("a a a a a a a")] + calls, "b b b b b b b", None)
        chain = [begin("a0")] + [recipe("a%d -o a%d" % (k, k + 1)) for k in range(10)]
        self.check(chain, "a6", 0, 1, 2, 3, 4, 5)
        self.check(chain, "a7", None)

    def test_a_recipe_that_takes_a_name_twice(self):
        self.check([begin("a b"), recipe("a*a -o c"), recipe("b -o a")], "c", 1, 0)
        self.check([begin("a b"), recipe("a*a -o c")], "c b", None)
        self.check([begin("a a"), recipe("a*a -o c")], "c", 0)
        self.check([begin("a a a"), recipe("a*a -o a")], "a", 0, 0)
        self.check([begin("a b a"), recipe("a*b*a -o c*c")], "c c", 0)
        self.check([begin("a b b"), recipe("a*b*a -o c*c")], "c c", None)

    def test_a_recipe_that_gives_what_it_takes(self):
        self.check([begin("a"), recipe("a -o a")], "a")
        self.check([begin("a"), recipe("a -o a*b")], "b b a", 0, 0)
        self.check([begin("b"), recipe("a -o a*b")], "b b", None)

    def test_circles(self):
        calls = [begin("a b"), recipe("a -o c"), recipe("c -o a"), recipe("b -o c")]
        self.check(calls, "a b")
        self.check(calls, "a a", 2, 1)
        self.check(calls, "c c", 0, 2)
        self.check(calls, "b b", None)

    def test_no_names(self):
        for text in (" ", " a", "a ", "a  b", "1", "A", "a,b", "a*b", "abcdefghijklm", [97, 0], [255], [97, 10, 98]):
            with self.subTest(text=text):
                self.check_refused(AHEAD, reach(text), -1)

    def test_ten_names_and_eleven(self):
        self.check(AHEAD, " ".join("a" * 10), None)
        self.check([begin(" ".join("a" * 10))], " ".join("a" * 10))
        for count in (11, 12, 2000):
            with self.subTest(count=count):
                self.check_refused(AHEAD, reach(" ".join("a" * count)), -5)

    def test_refusals_in_their_order(self):
        many = BAGS_300 + [ONE_MORE]
        self.check_refused(AHEAD, reach(" ".join("a" * 11) + " "), -1)
        self.check_refused(many, reach("a "), -1)
        self.check_refused(many, reach(" ".join("a" * 11) + " 1"), -1)
        self.check_refused(many, reach(" ".join("a" * 11)), -5)
        self.check_refused(many, reach(" ".join("a" * 10)), -7)

    def test_the_uses_of_the_plan_change_nothing_of_it(self):
        asked = [reach(names) for names in ("a a b", "b c", "a c", "b b b", "c", "b b a")]
        plain = run(*AHEAD, *asked)[3:]
        self.assertEqual(plain, [[1, 0], [1, 2, 0, 1], [1, 1, 0], [1, 2, 1, 1], [0, 0], [1, 1, 1]])
        for uses in ([use(0, 0, 2)], [use(1, 1)], [use(0, 0, 2), use(1, 1)], [use(1, 1), use(0, 0, 3), exchange(0)],
                     [follow(1, 1), told()]):
            with self.subTest(uses=uses):
                self.assertEqual(run(*AHEAD, *uses, *asked)[3 + len(uses):], plain)

    def test_the_beginning_and_the_recipes_as_they_are_then(self):
        found = run(begin("a"), reach("b"), recipe("a -o b"), reach("b"), reach("c"), recipe("b -o c"), reach("c"),
                    begin("b"), reach("c"), reach("b"), begin("c"), reach("b"))
        self.assertEqual(found, [[1], [0, 0], [0], [1, 1, 0], [0, 0], [1], [1, 2, 0, 1],
                                 [1], [1, 1, 1], [1, 0], [1], [0, 0]])

    def test_reach_changes_nothing(self):
        calls = AHEAD + [use(0, 0, 2)]
        looks = [stock(), plan(), show(0), show(2), weigh("a b c", 1, 2, 3)]
        found = run(*calls, reach("b c"), reach("b b b"), reach("z"), *looks)
        self.assertEqual(found[7:], run(*calls, *looks)[4:])
        self.assertEqual(found[7:10], [in_stock((1, "a"), (3, "c")), [1, 0, 2, 0, 2], shown("a*b -o c")])


class Bounds(Case):
    def check_all_refused(self, calls, asked):
        for names in asked:
            with self.subTest(names=names):
                self.check_refused(calls, reach(names), -7)

    def test_300_bags_and_301(self):
        self.assertEqual(last(*BAGS_300, reach("s x y z l m")), [1, 5, 0, 1, 2, 3, 4])
        self.assertEqual(last(*BAGS_300, reach("s z z z o o")), [1, 5, 2, 2, 2, 6, 6])
        self.assertEqual(last(*BAGS_300, reach("s")), [0, 0])
        # Another way to a bag is no other bag.
        self.assertEqual(last(*BAGS_300, recipe("x -o y"), reach("s a a y b b")), [1, 1, 1])
        self.check_all_refused(BAGS_300 + [ONE_MORE], ("t", "s x y z l m", "s", ""))

    def test_also_where_the_names_are_found_early(self):
        self.check_all_refused(BAGS_300 + [ONE_MORE], ("s a a a b b", "s x a a b b", "b s b a a a"))
        first = BAGS_300[:1] + [ONE_MORE] + BAGS_300[1:]
        self.check_all_refused(first, ("t", "s a a a b b", "s x a a b b"))

    def test_bags_that_courses_of_seven_reach_do_not_count(self):
        # 300 bags by courses of at most 6, 433 by those of at most 7.
        texts = ("d*a -o a", "b -o b*a", "a*a -o e*b", "d -o e*d", "b*d -o c", "b*a -o e*a")
        calls = [begin("a b b c d d")] + [recipe(text) for text in texts]
        self.assertEqual(last(*calls, reach("a b b c d")), [1, 1, 0])
        # 301 by those of at most 6.
        texts = ("c*b -o c*e", "a -o c*b", "c -o b*e", "c*c -o c*a", "c -o e*b", "a -o a*a")
        calls = [begin("a b b c c c")] + [recipe(text) for text in texts]
        self.check_all_refused(calls, ("a b b c c c", "b b b c c c c", "z"))

    def test_a_bag_of_20_names_and_one_of_21(self):
        two_more = recipe("a -o a*a*a")
        self.assertEqual(last(begin("a a a a a a a a"), two_more, reach("a a a a a a a a a a")), [1, 1, 0])
        self.assertEqual(last(begin("a a a a a a a a"), two_more, reach("a")), [0, 0])
        nine = [begin("a a a a a a a a a"), two_more]
        self.check_all_refused(nine, ("a a a a a a a a a", "a", ""))

    def test_names_of_a_bag_count_as_often_as_they_stand(self):
        five_more = recipe("a -o b*b*b*b*b*b")
        self.assertEqual(last(begin("a a b b b b b b b b"), five_more, reach("b")), [0, 0])
        self.check_all_refused([begin("a a a b b b b b b b"), five_more], ("a a a b b b b b b b", "b"))

    def test_a_great_bag_counts_where_less_comes_of_it(self):
        calls = [begin("a a a b b b b b b b"), recipe("a -o c*c*c*c*c*c"), recipe("c*c*c*c*c*c -o a")]
        self.check_all_refused(calls, ("a a a b b b b b b b", "z"))

    def test_a_great_bag_at_the_sixth_recipe_and_at_the_seventh(self):
        def chain(length):
            found = [begin("a0 b b b b b b b b b")] + [recipe("a%d -o a%d" % (k, k + 1)) for k in range(length)]
            return found + [recipe("a%d -o c*c*c*c*c*c" % length), recipe("c*b -o d*d*d*d*d*d")]

        # 10 names, then 15, then 19; a second time c*b would give 23.
        self.assertEqual(last(*chain(4), reach("a1 b b b b b b b b b")), [1, 1, 0])
        self.check_all_refused(chain(3), ("a1 b b b b b b b b b",))

    def test_more_than_300_bags_or_a_great_one_with_12_recipes(self):
        calls = [begin("a a a a a a a a a a")] + [recipe("a -o b%d" % k) for k in range(12)]
        self.check_all_refused(calls, ("a a a a a a a a a a", "b1"))
        calls = [begin("a a a a a a a a a a")] + [recipe("a -o a*a*a*a*a*b%d" % k) for k in range(12)]
        self.check_all_refused(calls, ("a a a a a a a a a a", "b1"))


class ManyCalls(Case):
    def test_many_calls_of_reach_with_12_recipes(self):
        # The last five recipes can be done too, but lead to no other bag.
        calls = BAGS_300 + [recipe("s -o s"), recipe("s*a -o s*a"), recipe("a*b -o a*b"), recipe("x -o y"),
                            recipe("s*s -o t")]
        self.assertEqual(len(calls), 13)
        found = run(*calls, *[reach("s x y z l m"), reach("s")] * 113, stock())
        self.assertEqual(found[13:-1], [[1, 5, 0, 1, 2, 3, 4], [0, 0]] * 113)

    def test_many_beginnings(self):
        recipes = BAGS_300[1:] + [recipe("s -o s")] * 5
        calls = recipes + [BAGS_300[0], reach("s x y z l m"), begin("s b a"), reach("s x o")] * 57
        self.assertEqual(len(calls), 240)
        self.assertEqual(run(*calls)[12:], [[6], [1, 5, 0, 1, 2, 3, 4], [3], [1, 2, 0, 6]] * 57)
