"""The interface: one flat list of calls in, one flat list of answers out."""

import unittest

from goodsplans.plans import answers
from tests.helper import (FAR, back, begin, exchange, follow, in_stock, joined, need, net, plan, reach, recipe, run,
                          show, shown, stock, told, use, used, weigh)


class Untouched(list):
    """A list that no step may change."""

    def refuse(self, *given, **named):
        raise AssertionError("the list handed in was changed")

    append = extend = insert = pop = remove = clear = sort = reverse = refuse
    __setitem__ = __delitem__ = __iadd__ = __imul__ = refuse


LINE = joined([begin("a a b"), recipe("a*b -o c"), recipe("a -o b"), use(0, 0, 2), use(1, 1), use(1, 1), stock(),
               plan(), show(0), show(7), need(0), need(-FAR), back(), back(), back(), recipe("nothing"),
               begin("1"), begin("b b a"), use(0, 2, 0), stock(), begin("a b a a"), follow(1, 0, 1), exchange(1),
               exchange(0), exchange(-FAR), plan(), told(), plan(), net(), reach("a a c"), reach("c b b"), reach(" "),
               follow(1), follow(FAR), weigh("c a b", 2, 1, 1), weigh("a", FAR, 3), weigh("a a", 1, 1)])


class Lines(unittest.TestCase):
    def test_each_answer_behind_its_count(self):
        calls = begin("a") + stock() + back() + recipe("a -o b") + use(0, 0) + show(0)
        self.assertEqual(answers(calls), [1, 1, 4, 1, 0, 1, 97, 1, -8, 1, 0, 2, 1, 1, 7, 6] + list(b"a -o b"))

    def test_one_call(self):
        self.assertEqual(answers([0, 0]), [1, 0])
        self.assertEqual(answers([3]), [1, -8])
        self.assertEqual(answers([4]), [1, 0])
        self.assertEqual(answers([5]), [1, 0])
        self.assertEqual(answers([6, 0]), [1, -2])
        self.assertEqual(answers([7, 0]), [1, -2])
        self.assertEqual(answers([8]), [1, 0])
        self.assertEqual(answers([9]), [7, 6, 32, 59, 32, 32, 59, 32])
        self.assertEqual(answers([10, 0]), [2, 1, 0])
        self.assertEqual(answers([10, 1, 97]), [2, 0, 0])
        self.assertEqual(answers([11, 0]), [1, 0])
        self.assertEqual(answers([11, 1, 0]), [1, -2])
        self.assertEqual(answers([12, 0, 0]), [2, 1, 0])
        self.assertEqual(answers([12, 1, 97, 1, 5]), [2, 1, 0])
        self.assertEqual(answers([13, 0]), [1, -2])
        self.assertEqual(answers([2, 0, 0]), [1, -2])
        self.assertEqual(answers([1, 0]), [1, -1])

    def test_rows_that_look_like_calls(self):
        self.assertEqual(run(begin([3]), begin([4, 5]), use(3, 4, 5), use(13, 13), stock(), recipe([4, 4, 4]), plan()),
                         [[-1], [-1], [-2], [-2], [0], [-1], [0]])
        self.assertEqual(run(exchange(8), follow(9, 9, 9), weigh([12, 12], 13, 13), weigh("a", 8), reach([11, 0]),
                             told(), weigh("", 9), follow()),
                         [[-2], [-2], [-1], [1, 0], [-1], [0], [-2], [0]])

    def test_the_list_is_as_it_was(self):
        calls = list(LINE)
        answers(calls)
        self.assertEqual(calls, LINE)

    def test_the_list_is_not_changed_for_a_while_either(self):
        self.assertEqual(answers(Untouched(LINE)), answers(list(LINE)))

    def test_nothing_is_kept_from_one_time_to_the_next(self):
        first = answers(list(LINE))
        self.assertEqual(answers(list(LINE)), first)
        self.assertEqual(run(stock(), plan(), show(0), need(0), back(), reach("c"), net(), weigh("a", 1), follow(0)),
                         [[0], [0], [-2], [-2], [-8], [0, 0], shown(" ;  ; "), [1, 0], [-2]])

    def test_the_answer_is_a_list_of_its_own(self):
        first = answers(list(LINE))
        kept = list(first)
        first.clear()
        self.assertEqual(answers(list(LINE)), kept)

    def test_240_calls(self):
        round_of_calls = [use(0, 0), stock(), plan(), need(0), back(), need(0)]
        calls = [begin("a"), recipe("a -o b*c")] + round_of_calls * 39 + [show(0), stock(), show(1), back()]
        self.assertEqual(len(calls), 240)
        found = run(*calls)
        self.assertEqual(found[:2], [[1], [0]])
        expected = [[1, 2], in_stock((1, "b"), (2, "c")), [1, 0, 1, 0], [1], [0], [0]]
        for k in range(39):
            self.assertEqual(found[2 + 6 * k:8 + 6 * k], expected)
        self.assertEqual(found[236:], [shown("a -o b*c"), in_stock((0, "a")), [-2], [-8]])

    def test_240_calls_of_all_fourteen_kinds(self):
        round_of_calls = [begin("a a b"), follow(1), use(0, 1, 2), stock(), plan(), exchange(0), plan(), told(), net(),
                          reach("b c"), weigh("a b c", 1, 1, 2), need(0), back(), show(1)]
        calls = [recipe("a*b -o c"), recipe("a -o b")] + round_of_calls * 17
        self.assertEqual((len(calls), {call[0] for call in calls}), (240, set(range(14))))
        expected = [[3], [1], [4, 1], in_stock((3, "b"), (4, "c")), used((1, 0), (0, 1, 2)),
                    [2], used((0, 1, 2), (1, 0)), [2],
                    shown("~a, ~a, ~b, a*~b, (a*b)*~c, b*c ;  ; 0-3 1-5 2-6 4-8 7-9"),
                    [1, 2, 0, 1], [1, 3], [1], [1], shown("a -o b")]
        flat = joined(calls)
        kept = list(flat)
        self.assertEqual(run(*calls), [[0], [1]] + expected * 17)
        self.assertEqual(answers(Untouched(flat)), answers(flat))
        self.assertEqual(flat, kept)

    def test_240_refusals(self):
        self.assertEqual(run(*[back()] * 240), [[-8]] * 240)

    def test_a_list_as_long_as_can_be(self):
        wide = "(" * 89 + "a" + ")" * 89
        text = wide + ("*" + wide) * 9 + " -o " + wide
        text += " " * (2000 - len(text))
        calls = [recipe(text)] * 8
        self.assertLessEqual(len(joined(calls)), 17000)
        self.assertEqual(run(*calls), [[-5]] * 8)
