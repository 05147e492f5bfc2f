"""Promise 2: recipe, how many there may be and how many names they may have."""

from tests.helper import Case, begin, form_of, last, need, recipe, run, show, shown, stock, use

SIX = "a*b*c*d*e*f"
SEVEN = "a*b*c*d*e*f*g"


class Recipe(Case):
    def test_numbers_in_the_order_of_adding(self):
        told = run(recipe("a -o b"), recipe("b -o a"), recipe("a -o b"), show(0), show(1), show(2))
        self.assertEqual(told, [[0], [1], [2], shown("a -o b"), shown("b -o a"), shown("a -o b")])

    def test_six_names_and_seven(self):
        self.assertEqual(form_of(SIX + " -o " + SIX), SIX + " -o " + SIX)
        self.assertEqual(form_of("a*a*a*a*a*a -o b"), "a*a*a*a*a*a -o b")
        self.assertEqual(form_of(SEVEN + " -o a"), -5)
        self.assertEqual(form_of("a -o " + SEVEN), -5)
        self.assertEqual(form_of(SEVEN + " -o " + SEVEN), -5)
        self.assertEqual(form_of("a*a*a*a*a*a*a -o b"), -5)
        self.assertEqual(form_of("(a*b)*(c*d)*(e*f)*g -o a"), -5)

    def test_twelve_recipes_and_thirteen(self):
        twelve = [recipe("a -o b%d" % k) for k in range(12)]
        told = run(*twelve, show(11))
        self.assertEqual(told[:12], [[k] for k in range(12)])
        self.assertEqual(told[12], shown("a -o b11"))
        self.check_refused(twelve, recipe("a -o c"), -6)

    def test_refusals_in_their_order(self):
        twelve = [recipe("a -o b")] * 12
        self.check_refused(twelve, recipe("a"), -1)
        self.check_refused(twelve, recipe(""), -1)
        self.check_refused(twelve, recipe(SEVEN + " -o a"), -5)
        self.check_refused(twelve, recipe("a -o " + SEVEN), -5)
        self.check_refused([], recipe(SEVEN + " -o ~a"), -1)
        self.check_refused([], recipe("~a -o " + SEVEN), -1)
        self.check_refused([], recipe(SEVEN + " -o a)"), -1)
        self.check_refused([], recipe(SEVEN), -1)

    def test_refused_recipes_are_not_counted(self):
        calls = [recipe("a"), recipe(SEVEN + " -o a"), recipe("a -o b")]
        self.assertEqual(run(*calls), [[-1], [-5], [0]])

    def test_recipes_stay_behind_begin_and_leave_the_plan_alone(self):
        told = run(recipe("a -o b"), begin("a a"), use(0, 0), recipe("b -o c"), stock(), begin("b"),
                   show(0), show(1), need(1))
        self.assertEqual(told[3:], [[1], [2, 1, 1, 97, 2, 1, 98], [1],
                                    shown("a -o b"), shown("b -o c"), [0]])

    def test_text_as_long_as_a_call_can_have(self):
        self.assertEqual(last(recipe("a -o b" + " " * 3994)), [-1])
