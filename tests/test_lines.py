"""The interface: one flat list of calls in, one flat list of answers out."""

import unittest

from goodsplans.plans import answers
from tests.helper import FAR, back, begin, in_stock, joined, need, plan, recipe, run, show, shown, stock, use


class Untouched(list):
    """A list that no step may change."""

    def refuse(self, *given, **named):
        raise AssertionError("the list handed in was changed")

    append = extend = insert = pop = remove = clear = sort = reverse = refuse
    __setitem__ = __delitem__ = __iadd__ = __imul__ = refuse


LINE = joined([begin("a a b"), recipe("a*b -o c"), recipe("a -o b"), use(0, 0, 2), use(1, 1), use(1, 1), stock(),
               plan(), show(0), show(7), need(0), need(-FAR), back(), back(), back(), recipe("nothing"),
               begin("1"), begin("b b a"), use(0, 2, 0), stock()])


class Lines(unittest.TestCase):
    def test_each_answer_behind_its_count(self):
        calls = begin("a") + stock() + back() + recipe("a -o b") + use(0, 0) + show(0)
        self.assertEqual(answers(calls), [1, 1, 4, 1, 0, 1, 97, 1, -8, 1, 0, 2, 1, 1, 7, 6] + list(b"a -o b"))

    def test_one_call(self):
        self.assertEqual(answers([0, 0]), [1, 0])
        self.assertEqual(answers([3]), [1, -8])
        self.assertEqual(answers([4]), [1, 0])
        self.assertEqual(answers([5]), [1, 0])
        self.assertEqual(answers([6, 0]), [1, -2])
        self.assertEqual(answers([13, 0]), [1, -2])
        self.assertEqual(answers([2, 0, 0]), [1, -2])
        self.assertEqual(answers([1, 0]), [1, -1])

    def test_rows_that_look_like_calls(self):
        self.assertEqual(run(begin([3]), begin([4, 5]), use(3, 4, 5), use(13, 13), stock(), recipe([4, 4, 4]), plan()),
                         [[-1], [-1], [-2], [-2], [0], [-1], [0]])

    def test_the_list_is_as_it_was(self):
        calls = list(LINE)
        answers(calls)
        self.assertEqual(calls, LINE)

    def test_the_list_is_not_changed_for_a_while_either(self):
        self.assertEqual(answers(Untouched(LINE)), answers(list(LINE)))

    def test_nothing_is_kept_from_one_time_to_the_next(self):
        first = answers(list(LINE))
        self.assertEqual(answers(list(LINE)), first)
        self.assertEqual(run(stock(), plan(), show(0), need(0), back()), [[0], [0], [-2], [-2], [-8]])

    def test_the_answer_is_a_list_of_its_own(self):
        first = answers(list(LINE))
        kept = list(first)
        first.clear()
        self.assertEqual(answers(list(LINE)), kept)

    def test_240_calls(self):
        round_of_calls = [use(0, 0), stock(), plan(), need(0), back(), need(0)]
        calls = [begin("a"), recipe("a -o b*c")] + round_of_calls * 39 + [show(0), stock(), show(1), back()]
        self.assertEqual(len(calls), 240)
        told = run(*calls)
        self.assertEqual(told[:2], [[1], [0]])
        expected = [[1, 2], in_stock((1, "b"), (2, "c")), [1, 0, 1, 0], [1], [0], [0]]
        for k in range(39):
            self.assertEqual(told[2 + 6 * k:8 + 6 * k], expected)
        self.assertEqual(told[236:], [shown("a -o b*c"), in_stock((0, "a")), [-2], [-8]])

    def test_240_refusals(self):
        self.assertEqual(run(*[back()] * 240), [[-8]] * 240)

    def test_a_list_as_long_as_can_be(self):
        wide = "(" * 89 + "a" + ")" * 89
        text = wide + ("*" + wide) * 9 + " -o " + wide
        text += " " * (2000 - len(text))
        calls = [recipe(text)] * 8
        self.assertLessEqual(len(joined(calls)), 17000)
        self.assertEqual(run(*calls), [[-5]] * 8)
