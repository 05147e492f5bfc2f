"""The document's example, as far as the calls are there."""

from tests.helper import Case, begin, in_stock, need, plan, recipe, run, show, shown, stock, use


class Example(Case):
    def test_the_documents_example(self):
        told = run(begin("a a b"), recipe("a*b -o c"), recipe("a -o b"),
                   use(0, 0, 2), use(1, 1), stock(), plan(), show(0), show(1), need(0))
        self.assertEqual(told, [
            [3], [0], [1],
            [3, 1], [4, 1],
            in_stock((3, "c"), (4, "b")),
            [2, 0, 2, 0, 2, 1, 1, 1],
            shown("a*b -o c"), shown("a -o b"),
            [1],
        ])
