"""Promise 2: what texts are read as formulas, and which formulas are recipes."""

import itertools

from tests.helper import Case, form_of

NO_FORMULA = -1
NO_RECIPE = -1
TOO_MANY_NAMES = -5


class Tokens(Case):
    def check(self, text, form):
        with self.subTest(text=text):
            self.assertEqual(form_of(text), form)

    def test_blanks_between_tokens_mean_nothing(self):
        for text in ("a*b-oc", "a*b -o c", "a * b -o c", "a  *   b    -o     c", "( a * b )-o( c )",
                     "~ ( a*b ) | c", "(~ a|~ b)|c"):
            self.check(text, "a*b -o c")

    def test_blanks_ahead_and_behind(self):
        self.check("  a -o b", "a -o b")
        self.check("a -o b  ", "a -o b")

    def test_blanks_within_tokens(self):
        self.check("a - o b", NO_FORMULA)
        self.check("a a -o b", NO_FORMULA)
        self.check("a -o b b", NO_FORMULA)

    def test_nothing_to_read(self):
        for text in ("", " ", "     ", " " * 2000):
            self.check(text, NO_FORMULA)

    def test_arrow_directly_ahead_of_a_name(self):
        self.check("a-oo", "a -o o")
        self.check("a-ob", "a -o b")
        self.check("o-oo", "o -o o")
        self.check("a-o-ob", NO_FORMULA)
        self.check("a-o1", NO_FORMULA)

    def test_arrow_cut_short(self):
        for text in ("a -", "a - b", "a -b", "a o b", "a -O b", "a -0 b", "a --o b", "a -", "-", "a -o b -"):
            self.check(text, NO_FORMULA)

    def test_length_of_names(self):
        self.check("a -o abcdefghijkl", "a -o abcdefghijkl")
        self.check("a23456789012 -o z", "a23456789012 -o z")
        self.check("a -o abcdefghijklm", NO_FORMULA)
        self.check("abcdefghijklm -o a", NO_FORMULA)
        self.check("a -o abcdefghijklabcdefghijkl", NO_FORMULA)

    def test_stretches_that_are_no_names(self):
        for text in ("1 -o a", "a -o 1", "1a -o b", "a -o 9b", "a*0 -o b", "~1|a", "a -o (1)"):
            self.check(text, NO_FORMULA)

    def test_digits_behind_a_letter(self):
        self.check("a0*z9 -o m5n", "a0*z9 -o m5n")

    def test_every_letter_first(self):
        for letter in "abcdefghijklmnopqrstuvwxyz":
            self.check(letter + "a1-o" + letter, letter + "a1 -o " + letter)

    def test_every_byte_at_the_end_and_between(self):
        for code in range(256):
            with self.subTest(code=code):
                name_sign = 97 <= code <= 122 or 48 <= code <= 57
                sign = bytes([code]).decode("latin-1")
                behind = form_of(list(b"a -o b") + [code])
                self.assertEqual(behind, "a -o b" + sign if name_sign else "a -o b" if code == 32 else -1)
                between = form_of(list(b"a -o b") + [code] + list(b"c"))
                expected = "a -o b" + sign + "c" if name_sign or sign == "*" else -1
                self.assertEqual(between, expected)
                self.assertEqual(form_of([code] + list(b" a -o b")), "a -o b" if code == 32 else -1)

    def test_2000_bytes_and_2001(self):
        self.check("a" + " " * 1994 + "-o b" + " ", "a -o b")
        self.check("a" + " " * 1994 + "-o b" + "  ", NO_FORMULA)
        self.check("a -o b" + " " * 1994, "a -o b")
        self.check("a -o b" + " " * 1995, NO_FORMULA)
        self.check(" " * 1994 + "a -o b", "a -o b")
        self.check(" " * 1995 + "a -o b", NO_FORMULA)


class Formulas(Case):
    def check(self, text, form):
        with self.subTest(text=text):
            self.assertEqual(form_of(text), form)

    def test_turning(self):
        self.check("~a|b", "a -o b")
        self.check("~~~a|b", "a -o b")
        self.check("~a|~~b", "a -o b")
        self.check("~~(a -o b)", "a -o b")
        self.check("~~a -o ~~b", "a -o b")
        self.check("~a|~b", NO_RECIPE)
        self.check("~~a|b", NO_RECIPE)
        self.check("~(a -o b)", NO_RECIPE)

    def test_turning_brackets(self):
        self.check("~(a*~b)", "a -o b")
        self.check("~(a*b)|c", "a*b -o c")
        self.check("~(a*b*c)|d", "a*b*c -o d")
        self.check("~a|~(~b|~c)", "a -o b*c")
        self.check("~((a*b)*(~c|~d))", "a*b -o c*d")
        self.check("~((a*b)*~(c*d))", "a*b -o c*d")
        self.check("a -o ~(b -o ~c)", "a -o b*c")
        self.check("~(~(a -o b))", "a -o b")

    def test_turning_ends_with_its_part(self):
        self.check("~a*b", NO_RECIPE)
        self.check("~a*b|c", NO_FORMULA)
        self.check("~a|b*c", NO_FORMULA)
        self.check("~a|(b*c)", "a -o b*c")
        self.check("~a -o b", NO_RECIPE)

    def test_chains(self):
        self.check("a*b*c -o d*e*f", "a*b*c -o d*e*f")
        self.check("~a|~b -o c", NO_RECIPE)
        self.check("a|b -o c", NO_RECIPE)
        self.check("a -o b|c", NO_RECIPE)
        self.check("~a|b|c", NO_RECIPE)
        self.check("~a|~b|c", NO_RECIPE)

    def test_chain_with_both_signs(self):
        for text in ("a*b|c -o d", "a|b*c -o d", "a -o b*c|d", "a -o b|c*d", "~a|b*c", "~a*~b|c",
                     "(a*b|c) -o d", "~a|b|c*d"):
            self.check(text, NO_FORMULA)

    def test_other_signs_within_brackets_or_behind_an_arrow(self):
        self.check("(~a|~b)|(c*d)", "a*b -o c*d")
        self.check("~(a*b)|(c*d)", "a*b -o c*d")
        self.check("a*b -o ~(~c|~d)", "a*b -o c*d")

    def test_arrows_within_brackets(self):
        self.check("(a -o b)", "a -o b")
        self.check("((a -o b))", "a -o b")
        self.check("(a) -o (b)", "a -o b")
        self.check("(a -o b) -o c", NO_RECIPE)
        self.check("a -o (b -o c)", NO_RECIPE)
        self.check("~(a -o ~b) -o c", "a*b -o c")
        self.check("~(a -o (b -o ~c)) -o d", "a*b*c -o d")
        self.check("~(a -o ~(b -o ~c)) -o d", NO_RECIPE)
        self.check("~(a*b -o ~c)*d -o e", "a*b*c*d -o e")

    def test_several_arrows_are_read_from_the_right(self):
        self.check("a -o b -o c", NO_RECIPE)
        self.check("a -o b -o c -o d", NO_RECIPE)
        self.check("~(a -o b -o c)", NO_RECIPE)
        # As a -o (b -o ~c) this is the dual of a tensor of three.
        self.check("(a -o b -o ~c)|d", "a*b*c -o d")
        self.check("a -o ~(b -o c -o ~d)", "a -o b*c*d")

    def test_arrow_behind_a_chain(self):
        self.check("a*b -o c", "a*b -o c")
        self.check("a*(b -o c)", NO_RECIPE)
        self.check("a*b -o c*d", "a*b -o c*d")

    def test_brackets_that_do_not_match(self):
        for text in ("(a -o b", "a -o b)", "a) -o (b", ")a -o b(", "((a) -o b", "(a)) -o b", "()", "a -o ()",
                     "(", ")", "a -o (b*(c)", "(a -o b))", "~(a", "a*(b -o c"):
            self.check(text, NO_FORMULA)

    def test_signs_at_wrong_places(self):
        for text in ("*a -o b", "a* -o b", "a**b -o c", "a -o *b", "a -o b*", "a~ -o b", "a -o b~", "a~b", "a -o",
                     "-o b", "-o", "~", "~~", "a -o -o b", "a -o ~", "a (b)", "(a)(b)", "(a)b -o c", "a(b) -o c",
                     "~*a", "~-o a", "|a", "~a|", "~a||b", "(*a) -o b", "(a*) -o b", "(a -o) b", "~)a|b"):
            self.check(text, NO_FORMULA)

    def test_commas_and_semicolons(self):
        for text in ("a -o b, a -o b", "a -o b,", "a -o b;", "a -o b ; ;"):
            self.check(text, NO_FORMULA)


class Pending(Case):
    """At no place more than 100 of (, ~, -o and signs of chains may be open."""

    def check(self, text, expected):
        with self.subTest(text=text):
            self.assertLessEqual(len(text), 2000)
            self.assertEqual(form_of(text), expected)

    def test_brackets(self):
        self.check("(" * 100 + "a" + ")" * 100 + " -o b", "a -o b")
        self.check("(" * 101 + "a" + ")" * 101 + " -o b", NO_FORMULA)
        self.check("(" * 99 + "a -o b" + ")" * 99, "a -o b")
        self.check("(" * 100 + "a -o b" + ")" * 100, NO_FORMULA)

    def test_arrow_and_brackets(self):
        self.check("a -o " + "(" * 99 + "b" + ")" * 99, "a -o b")
        self.check("a -o " + "(" * 100 + "b" + ")" * 100, NO_FORMULA)

    def test_closed_brackets_are_not_counted(self):
        deep = "(" * 99 + "a" + ")" * 99
        self.check(deep + "*" + deep + "*" + "(" * 98 + "a" + ")" * 98 + " -o b", "a*a*a -o b")

    def test_turnings(self):
        self.check("~" * 100 + "a -o b", "a -o b")
        self.check("~" * 102 + "a -o b", NO_FORMULA)
        self.check("~" * 101 + "a | b", NO_FORMULA)
        self.check("~" * 99 + "a | b", "a -o b")
        self.check("~" * 98 + "(a -o b)", "a -o b")
        self.check("~" * 98 + "((a -o b))", NO_FORMULA)
        self.check("a -o " + "~" * 98 + "(b)", "a -o b")
        self.check("a -o " + "~" * 98 + "((b))", NO_FORMULA)

    def test_turnings_end_with_their_part(self):
        self.check("(" * 98 + "~a|~b" + ")" * 98 + "|c", "a*b -o c")
        self.check("(" * 99 + "~a|~b" + ")" * 99 + "|c", NO_FORMULA)

    def test_signs_of_a_chain(self):
        self.check("*".join(["a"] * 101) + " -o b", TOO_MANY_NAMES)
        self.check("*".join(["a"] * 102) + " -o b", NO_FORMULA)
        self.check("b -o " + "*".join(["a"] * 100), TOO_MANY_NAMES)
        self.check("b -o " + "*".join(["a"] * 101), NO_FORMULA)
        self.check("(" + "|".join(["~a"] * 99) + ")|b", TOO_MANY_NAMES)
        self.check("(" + "|".join(["~a"] * 100) + ")|b", NO_FORMULA)

    def test_signs_end_with_their_chain(self):
        self.check("(" * 99 + "a*b -o c" + ")" * 99, "a*b -o c")
        self.check("(" * 100 + "a*b -o c" + ")" * 100, NO_FORMULA)
        half = "(" + "*".join(["a"] * 60) + ")"
        self.check(half + "*" + half + " -o b", TOO_MANY_NAMES)

    def test_arrows(self):
        levels = "a -o ~~(" * 24
        self.check("(" + levels + "((~a))" + ")" * 24 + ")|b", TOO_MANY_NAMES)
        self.check("(" + levels + "(((~a)))" + ")" * 24 + ")|b", NO_FORMULA)
        self.check("(" + "a -o " * 98 + "~a)|b", TOO_MANY_NAMES)
        self.check("(" + "a -o " * 99 + "~a)|b", NO_FORMULA)

    def test_arrows_end_with_their_formula(self):
        self.check("(" + "a -o " * 60 + "~a)|b", TOO_MANY_NAMES)
        self.check("(" * 98 + "a -o ~b" + ")" * 98 + "|" + "(" * 99 + "c" + ")" * 99, "a*b -o c")

    def test_formulas_deeper_than_40(self):
        self.check("*".join(["a"] * 50) + " -o b", TOO_MANY_NAMES)
        self.check("(" * 60 + "a*" + "b)*" * 60 + "c -o d", TOO_MANY_NAMES)

    def test_texts_full_of_signs(self):
        for sign in ("(", "~", "-o", "*", "|", ")", "a*", "a-o", "~(", "(a)", "a", "a "):
            self.check(sign * (2000 // len(sign)), NO_FORMULA)


class Recipes(Case):
    def check(self, text, form):
        with self.subTest(text=text):
            self.assertEqual(form_of(text), form)

    def test_formulas_that_are_no_recipe(self):
        for text in ("a", "~a", "a*b", "~a*~b", "a|b", "a|~b", "~a|~b", "~a -o b", "a -o ~b", "a|b -o c",
                     "a -o b|c", "a*~b -o c", "a -o b*~c", "(a -o b)*(a -o b)", "(a -o b)|(a -o b)", "a*(b|c) -o d",
                     "a -o b*(c|d)", "~(a*b)", "(~a*~b)|c", "~a|~b|c", "b|~a"):
            self.check(text, NO_RECIPE)

    def test_written_as_a_par(self):
        self.check("~a|b", "a -o b")
        self.check("(~a|~b)|c", "a*b -o c")
        self.check("(~a|~b|~c)|(d*e)", "a*b*c -o d*e")
        self.check("((~a|~b)|~c)|d", "a*b*c -o d")

    def test_tensors_put_together_in_other_ways(self):
        for text in ("a*b*c*d -o e", "(a*b)*c*d -o e", "((a*b)*c)*d -o e", "(a*b)*(c*d) -o e", "a*(b*c)*d -o e",
                     "a*((b*c)*d) -o e", "(a*(b*c))*d -o e"):
            self.check(text, "a*b*c*d -o e")
        for text in ("e -o a*b*c*d", "e -o (a*b)*c*d", "e -o ((a*b)*c)*d", "e -o (a*b)*(c*d)", "e -o a*((b*c)*d)"):
            self.check(text, "e -o a*b*c*d")

    def test_order_and_repetition_count(self):
        self.check("c*a*b*a -o b*a*b", "c*a*b*a -o b*a*b")


class ByTheGrammar(Case):
    """All short rows of tokens, against the grammar written down as functions."""

    def test_all_rows_of_up_to_six_tokens(self):
        for length in range(1, 7):
            for tokens in itertools.product(("a", "~", "*", "|", "(", ")", "-o"), repeat=length):
                text = " ".join(tokens)
                expected = recipe_by_grammar(tokens)
                if form_of(text) != expected:
                    self.fail("%r is %r, not %r" % (text, form_of(text), expected))

    def test_rows_of_longer_tokens(self):
        wholes = ("a", "~a", "(b*c)", "~(b*c)", "(~b|~c)", "-o", "*", "|")
        for length in range(1, 6):
            for pieces in itertools.product(wholes, repeat=length):
                text = " ".join(pieces)
                tokens = [sign for piece in pieces for sign in ([piece] if piece == "-o" else piece)]
                self.assertEqual(form_of(text), recipe_by_grammar(tokens), text)


def recipe_by_grammar(tokens):
    formula, end = formula_at(list(tokens), 0)
    if formula is None or end != len(tokens) or formula[0] != "|":
        return -1
    takes = names_if_all(formula[1], "|", "turned")
    gives = names_if_all(formula[2], "*", "plain")
    if takes is None or gives is None:
        return -1
    return "*".join(takes) + " -o " + "*".join(gives)


def names_if_all(formula, sign, side):
    if formula[0] == side:
        return [formula[1]]
    if formula[0] != sign:
        return None
    first = names_if_all(formula[1], sign, side)
    second = names_if_all(formula[2], sign, side)
    return None if first is None or second is None else first + second


def opposite(formula):
    other = {"*": "|", "|": "*", "plain": "turned", "turned": "plain"}[formula[0]]
    if len(formula) == 2:
        return (other, formula[1])
    return (other, opposite(formula[1]), opposite(formula[2]))


def formula_at(tokens, at):
    first, at = chain_at(tokens, at, "*|")
    if first is None or tokens[at:at + 1] != ["-o"]:
        return first, at
    second, at = formula_at(tokens, at + 1)
    return (None if second is None else ("|", opposite(first), second)), at


def chain_at(tokens, at, signs):
    first, at = part_at(tokens, at)
    if first is None or at == len(tokens) or tokens[at] not in ("*", "|"):
        return first, at
    sign = tokens[at]
    if sign not in signs:
        return None, at
    second, at = chain_at(tokens, at + 1, sign)
    return (None if second is None else (sign, first, second)), at


def part_at(tokens, at):
    token = tokens[at] if at < len(tokens) else None
    if token == "~":
        part, at = part_at(tokens, at + 1)
        return (None if part is None else opposite(part)), at
    if token == "(":
        inner, at = formula_at(tokens, at + 1)
        return (inner, at + 1) if tokens[at:at + 1] == [")"] else (None, at)
    if token in ("a", "b", "c"):
        return ("plain", token), at + 1
    return None, at
