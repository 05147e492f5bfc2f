"""Promise 10: net, with the forms of formulas, sequents and structures."""

import re

from tests.helper import (Case, back, begin, exchange, follow, last, net, plan, recipe, run, shown, stock, text_told,
                          use)


def net_behind(*calls):
    return text_told(last(*calls, net()))


class Net(Case):
    def check(self, calls, form):
        self.assertEqual(last(*calls, net()), shown(form))

    def test_no_units_and_no_uses(self):
        self.check([], " ;  ; ")
        self.assertEqual(last(net()), [6, 32, 59, 32, 32, 59, 32])
        self.check([begin("")], " ;  ; ")
        self.check([begin("a"), recipe("a -o b"), use(0, 0), begin("")], " ;  ; ")

    def test_a_beginning_and_no_uses(self):
        self.check([begin("a")], "~a, a ;  ; 0-1")
        self.check([begin("b a1")], "~b, ~a1, b*a1 ;  ; 0-2 1-3")
        self.check([begin("a b a")], "~a, ~b, ~a, a*b*a ;  ; 0-3 1-4 2-5")

    def test_recipes_that_are_not_used_are_not_there(self):
        self.check([recipe("a -o b"), begin("a"), recipe("b -o c")], "~a, a ;  ; 0-1")

    def test_one_name_taken_and_one_given(self):
        self.check([begin("a"), recipe("a -o b"), use(0, 0)], "~a, a*~b, b ;  ; 0-1 2-3")

    def test_one_name_taken_and_several_given(self):
        self.check([begin("a"), recipe("a -o b*c"), use(0, 0)], "~a, a*(~b|~c), b*c ;  ; 0-1 2-4 3-5")
        self.check([begin("a"), recipe("a -o b*c*d"), use(0, 0)], "~a, a*(~b|~c|~d), b*c*d ;  ; 0-1 2-5 3-6 4-7")

    def test_several_names_taken_and_one_given(self):
        self.check([begin("a b"), recipe("a*b -o c"), use(0, 0, 1)], "~a, ~b, (a*b)*~c, c ;  ; 0-2 1-3 4-5")
        self.check([begin("a b c"), recipe("a*b*c -o d"), use(0, 0, 1, 2)],
                   "~a, ~b, ~c, (a*b*c)*~d, d ;  ; 0-3 1-4 2-5 6-7")

    def test_several_names_taken_and_several_given(self):
        self.check([begin("a b c"), recipe("a*b*c -o d*e*f"), use(0, 0, 1, 2)],
                   "~a, ~b, ~c, (a*b*c)*(~d|~e|~f), d*e*f ;  ; 0-3 1-4 2-5 6-9 7-10 8-11")

    def test_as_many_names_as_a_recipe_can_have(self):
        self.check([begin("a b c d e f"), recipe("a*b*c*d*e*f -o g*h*i*j*k*l"), use(0, 0, 1, 2, 3, 4, 5)],
                   "~a, ~b, ~c, ~d, ~e, ~f, (a*b*c*d*e*f)*(~g|~h|~i|~j|~k|~l), g*h*i*j*k*l ;  ; "
                   "0-6 1-7 2-8 3-9 4-10 5-11 12-18 13-19 14-20 15-21 16-22 17-23")

    def test_how_the_recipes_text_put_tensors_together_does_not_show(self):
        for text in ("a*b*c -o d*e*f", "(a*b)*c -o (d*e)*f", "~((a*b)*c)|(d*(e*f))", "~(((a*b)*c)*~((d*e)*f))"):
            with self.subTest(text=text):
                self.check([begin("a b c"), recipe(text), use(0, 0, 1, 2)],
                           "~a, ~b, ~c, (a*b*c)*(~d|~e|~f), d*e*f ;  ; 0-3 1-4 2-5 6-9 7-10 8-11")

    def test_units_of_one_name_are_told_apart(self):
        calls = [begin("a a a"), recipe("a*a -o a*a")]
        self.check(calls + [use(0, 0, 1)], "~a, ~a, ~a, (a*a)*(~a|~a), a*a*a ;  ; 0-3 1-4 2-7 5-8 6-9")
        self.check(calls + [use(0, 2, 0)], "~a, ~a, ~a, (a*a)*(~a|~a), a*a*a ;  ; 0-4 1-7 2-3 5-8 6-9")
        self.check(calls + [use(0, 2, 0), use(0, 4, 1)],
                   "~a, ~a, ~a, (a*a)*(~a|~a), (a*a)*(~a|~a), a*a*a ;  ; 0-4 1-8 2-3 5-11 6-7 9-12 10-13")

    def test_the_stock_by_rising_numbers(self):
        self.check([begin("d a c"), recipe("a -o b*a"), use(0, 1)], "~d, ~a, ~c, a*(~b|~a), d*c*b*a ;  ; "
                   "0-6 1-3 2-7 4-8 5-9")

    def test_behind_uses_the_stock_is_never_empty(self):
        # A recipe gives at least one name, so of the stock one unit at least is left.
        self.assertEqual(run(recipe("a -o"), recipe("-o a"), recipe("a -o ()")), [[-1]] * 3)
        self.check([begin("a a"), recipe("a*a -o a"), use(0, 1, 0)], "~a, ~a, (a*a)*~a, a ;  ; 0-3 1-2 4-5")

    def test_longest_names(self):
        self.check([begin("abcdefghijkl"), recipe("abcdefghijkl -o z12345678901"), use(0, 0)],
                   "~abcdefghijkl, abcdefghijkl*~z12345678901, z12345678901 ;  ; 0-1 2-3")

    def test_the_plan_as_it_is_then(self):
        calls = [begin("a a"), recipe("a -o b"), recipe("a -o c*c"), use(0, 0), use(1, 1)]
        self.check(calls, "~a, ~a, a*~b, a*(~c|~c), b*c*c ;  ; 0-2 1-4 3-7 5-8 6-9")
        self.check(calls + [exchange(0)], "~a, ~a, a*(~c|~c), a*~b, c*c*b ;  ; 0-5 1-2 3-7 4-8 6-9")
        self.check(calls + [back()], "~a, ~a, a*~b, a*b ;  ; 0-2 1-4 3-5")

    def test_twenty_conclusions_and_twenty_one(self):
        ten = [recipe("a -o a")] + [follow(0, 0, 0, 0, 0)] * 2
        nine = net_behind(begin("a a a a a a a a a"), *ten)
        self.assertEqual(nine.split(" ; ")[0].count(","), 19)
        self.assertEqual(nine.split(" ; ")[2], "0-9 1-11 2-13 3-15 4-17 5-19 6-21 7-23 8-25 10-27 12-29 14-30 16-31 "
                         "18-32 20-33 22-34 24-35 26-36 28-37")
        self.check_refused([begin("a a a a a a a a a a")] + ten, net(), -5)
        found = run(begin("a a a a a a a a a a"), *ten, net(), back(), net())
        self.assertEqual(found[-3:-1], [[-5], [9]])
        self.assertEqual(text_told(found[-1]).split(" ; ")[0].count(","), 19)

    def test_120_leaves_and_more(self):
        nine = [recipe("a -o a*a*a*a*a*a")] + [follow(0, 0, 0)] * 3
        form = net_behind(begin("a a a a a a"), *nine)
        leaves = re.findall("~?a", form)
        self.assertEqual((len(leaves), leaves.count("~a")), (120, 60))
        self.assertTrue(form.startswith("~a, " * 6 + "a*(~a|~a|~a|~a|~a|~a), " * 9 + "a*a*a"))
        self.assertTrue(form.endswith(" 66-117 67-118 68-119"))
        for count in (7, 8, 9, 10):
            with self.subTest(count=count):
                self.check_refused([begin(" ".join("a" * count))] + nine, net(), -5)

    def test_leaves_are_counted_where_conclusions_are_few(self):
        ten = [recipe("a -o a*a*a*a*a*a"), recipe("a -o a*a*a*a*a"), begin("a"), follow(0, 0, 0, 0, 0, 0, 0, 0, 0)]
        self.assertEqual(net_behind(*ten, follow(1)).count("~a"), 60)
        self.check_refused(ten + [follow(0)], net(), -5)

    def test_a_tensor_of_many_names(self):
        # The tensor is 46 deep.
        calls = [begin("a"), recipe("a -o a*a*a*a*a*b")] + [follow(0, 0, 0)] * 3
        form = net_behind(*calls)
        names = form.split(" ; ")[0].split(", ")[-1]
        self.assertEqual((len(names), names.count("*"), names.count("("), names.count("b")), (91, 45, 0, 9))

    def test_net_changes_nothing(self):
        calls = [begin("a b"), recipe("a -o b"), use(0, 0)]
        plain = run(*calls, stock(), plan(), net())
        self.assertEqual(run(*calls, net(), net(), stock(), plan(), net())[5:], plain[3:])


class Links(Case):
    """What the words say of a structure, asked of the nets of several plans."""

    def check_structure(self, form):
        conclusions, cuts, links = form.split(" ; ")
        self.assertEqual(cuts, "")
        leaves = re.findall("~?[a-z][a-z0-9]*", conclusions)
        pairs = [tuple(int(number) for number in link.split("-")) for link in links.split(" ")]
        self.assertEqual(links, " ".join("%d-%d" % pair for pair in pairs))
        self.assertEqual(sorted(number for pair in pairs for number in pair), list(range(len(leaves))))
        self.assertEqual(pairs, sorted(pairs))
        for lesser, greater in pairs:
            self.assertLess(lesser, greater)
            self.assertEqual(leaves[lesser], "~" + leaves[greater])

    def test_structures(self):
        recipes = [recipe("a*b -o c*a"), recipe("c -o b*b"), recipe("b*b*a -o d"), recipe("d -o a*a*b*c*c*b")]
        for names in ("a b", "a a b b", "b c a d", "d", "d d c a", "c c c a a a b b b"):
            for course in ((3,), (0,), (0, 1), (1,), (1, 2), (3, 0, 1, 2), (3, 2, 3, 0, 1), (1, 1, 2, 0, 1)):
                found = run(begin(names), *recipes, follow(*course), net())
                if found[5] == [len(course)]:
                    with self.subTest(names=names, course=course):
                        self.check_structure(text_told(found[6]))
