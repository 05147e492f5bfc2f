"""The document's example, whole."""

from tests.helper import (Case, begin, exchange, in_stock, need, net, plan, reach, recipe, run, show, shown, stock,
                          told, use, used, weigh)

PLAN = used((0, 0, 2), (1, 1))
NET = shown("~a, ~a, ~b, (a*b)*~c, a*~b, c*b ;  ; 0-3 1-6 2-4 5-8 7-9")


class Example(Case):
    def test_the_documents_example(self):
        found = run(begin("a a b"), recipe("a*b -o c"), recipe("a -o b"),
                    use(0, 0, 2), use(1, 1), stock(), plan(), told(), plan(), net(), reach("b c"),
                    weigh("a b c", 1, 1, 2), show(0), show(1), need(0))
        self.assertEqual(found, [
            [3], [0], [1],
            [3, 1], [4, 1],
            in_stock((3, "c"), (4, "b")),
            PLAN, [0], PLAN, NET,
            [1, 2, 0, 1], [1, 3],
            shown("a*b -o c"), shown("a -o b"),
            [1],
        ])

    def test_its_two_uses_are_independent(self):
        found = run(begin("a a b"), recipe("a*b -o c"), recipe("a -o b"), use(0, 0, 2), use(1, 1),
                    exchange(0), plan(), stock(), told(), plan(), net())
        self.assertEqual(found[5:], [[2], used((1, 1), (0, 0, 2)), in_stock((3, "b"), (4, "c")), [2], PLAN, NET])

    def test_whatever_is_done_the_stock_weighs_the_same(self):
        weight = weigh("a b c", 1, 1, 2)
        found = run(begin("a a b"), recipe("a*b -o c"), weight, use(0, 0, 2), weight, recipe("a -o b"), weight,
                    use(1, 1), weight)
        self.assertEqual(found[2::2], [[1, 3]] * 4)
