"""Promise 1: begin, and what texts are names."""

from tests.helper import Case, back, begin, in_stock, last, need, plan, recipe, run, show, shown, stock, use

AHEAD = [begin("a b"), recipe("a -o b*c"), use(0, 0)]


class Begin(Case):
    def test_units_are_numbered_in_order(self):
        self.assertEqual(run(begin("b a b zz9"), stock()),
                         [[4], in_stock((0, "b"), (1, "a"), (2, "b"), (3, "zz9"))])

    def test_no_names_at_all(self):
        self.assertEqual(run(begin(""), stock(), plan()), [[0], [0], [0]])

    def test_ten_names_and_eleven(self):
        self.assertEqual(last(begin(" ".join(["a"] * 10))), [10])
        self.check_refused(AHEAD, begin(" ".join(["a"] * 11)), -5)

    def test_as_many_names_as_a_text_can_have(self):
        self.check_refused(AHEAD, begin("a " * 1999 + "a"), -5)

    def test_longest_name(self):
        self.assertEqual(run(begin("abcdefghijkl"), stock()), [[1], in_stock((0, "abcdefghijkl"))])
        self.assertEqual(run(begin("a12345678901 b"), stock()),
                         [[2], in_stock((0, "a12345678901"), (1, "b"))])
        self.check_refused(AHEAD, begin("abcdefghijklm"), -1)
        self.check_refused(AHEAD, begin("a a123456789012"), -1)
        self.check_refused(AHEAD, begin("a" * 4000), -1)

    def test_first_and_last_letters_and_digits(self):
        self.assertEqual(run(begin("a z a0 z9 az09"), stock()),
                         [[5], in_stock((0, "a"), (1, "z"), (2, "a0"), (3, "z9"), (4, "az09"))])

    def test_digit_first(self):
        for text in ("1", "0a", "9", "a 1b", "a 0"):
            with self.subTest(text=text):
                self.check_refused(AHEAD, begin(text), -1)

    def test_every_byte_alone_and_within_a_name(self):
        for code in range(256):
            letter = 97 <= code <= 122
            digit = 48 <= code <= 57
            with self.subTest(code=code):
                self.assertEqual(last(begin([code])), [1] if letter else [-1])
                self.assertEqual(last(begin([97, code])), [1] if letter or digit else [-1])
                within = [1] if letter or digit else [2] if code == 32 else [-1]
                self.assertEqual(last(begin([97, code, 98])), within)

    def test_blanks_at_wrong_places(self):
        for text in (" ", "  ", " a", "a ", "a  b", " a b", "a b ", "a   b"):
            with self.subTest(text=text):
                self.check_refused(AHEAD, begin(text), -1)

    def test_no_names_comes_ahead_of_too_many(self):
        many = " ".join(["a"] * 11)
        for text in (many + " ", " " + many, many + " 1", "a  " + many, many + " abcdefghijklm"):
            with self.subTest(text=text):
                self.check_refused(AHEAD, begin(text), -1)

    def test_begin_again_behind_uses(self):
        told = run(*AHEAD, begin("a c a"), stock(), plan(), show(0), need(0), back(), use(0, 2), stock())
        self.assertEqual(told[3:], [
            [3], in_stock((0, "a"), (1, "c"), (2, "a")), [0], shown("a -o b*c"), [0], [-8],
            [3, 2], in_stock((0, "a"), (1, "c"), (3, "b"), (4, "c")),
        ])

    def test_begin_makes_room_for_ten_uses_again(self):
        calls = [begin("a"), recipe("a -o a")] + [use(0, k) for k in range(10)]
        self.assertEqual(last(*calls, use(0, 10)), [-5])
        self.assertEqual(last(*calls, begin("a"), use(0, 0)), [1, 1])
