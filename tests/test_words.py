"""Names, numbers, expressions and their worth: point 4."""

import ast
import copy
import itertools
import re
import unittest

from blockfall.errors import FallError, NoRow
from blockfall.words import expression, is_name, worth

TAKEN = ("box", "block", "put", "say", "ask", "go", "if", "else", "table", "stop")
SIGNS = {ast.Add: "+", ast.Sub: "-", ast.Mult: "*"}


def box(name):
    return ("box", name)


def number(n):
    return ("number", n)


def by_python(word):
    """The same word's tuple, by way of Python's own reader."""
    def told(node):
        if isinstance(node, ast.BinOp):
            return (SIGNS[type(node.op)], told(node.left), told(node.right))
        if isinstance(node, ast.Name):
            return box(node.id)
        return number(node.value)
    return told(ast.parse(word, mode="eval").body)


def holds_by_shrinking(word):
    """Whether a word is an expression, by shrinking it to one factor, a tab, which no word holds."""
    def atom(found):
        part = found.group()
        return "\t" if part == "0" or re.fullmatch("[1-9][0-9]{0,2}|[a-z]{1,8}", part) else "?"
    shrunk = re.sub("[a-z0-9]+", atom, word)
    while True:
        smaller = re.sub(r"\t[-+*]\t|\(\t\)", "\t", shrunk)
        if smaller == shrunk:
            return shrunk == "\t"
        shrunk = smaller


class NameTest(unittest.TestCase):
    def test_names(self):
        for word in ("a", "z", "ab", "abcdefgh", "zzzzzzzz", "boxes", "bo", "stops", "xif", "number"):
            with self.subTest(word):
                self.assertIs(is_name(word), True)

    def test_no_names(self):
        words = (
            "", "abcdefghi", "A", "aB", "a1", "1", "1a", "a_b", "_", "a-b", "a b", " a", "a ", " ", "a\n", "\na",
            "\n", "a.", "(a)", "~", "`", "{", "@", "[",
        )
        for word in words:
            with self.subTest(word):
                self.assertIs(is_name(word), False)

    def test_the_ten_words_are_no_names(self):
        for word in TAKEN:
            with self.subTest(word):
                self.assertIs(is_name(word), False)

    def test_each_small_letter_and_no_other_sign_is_a_name(self):
        for code in range(ord(" "), ord("~") + 1):
            with self.subTest(code=code):
                self.assertIs(is_name(chr(code)), chr(code) in "abcdefghijklmnopqrstuvwxyz")

    def test_very_long_words_are_no_names(self):
        self.assertIs(is_name("a" * 100000), False)


class ExpressionTest(unittest.TestCase):
    def check(self, word, told):
        with self.subTest(word):
            got = expression(word)
            self.assertEqual(got, told)
            self.check_kinds(got)

    def check_kinds(self, e):
        self.assertIs(type(e), tuple)
        if e[0] == "number":
            self.assertEqual(len(e), 2)
            self.assertIs(type(e[1]), int)
        elif e[0] == "box":
            self.assertEqual(len(e), 2)
            self.assertIs(type(e[1]), str)
        else:
            self.assertIn(e[0], ("+", "-", "*"))
            self.assertEqual(len(e), 3)
            self.check_kinds(e[1])
            self.check_kinds(e[2])

    def refused(self, word):
        with self.subTest(word[:80]):
            with self.assertRaises(FallError) as caught:
                expression(word)
            self.assertIs(type(caught.exception), NoRow)

    def test_numbers(self):
        for word in ("0", "1", "9", "10", "42", "99", "100", "907", "999"):
            self.check(word, number(int(word)))

    def test_no_numbers(self):
        for word in ("00", "01", "000", "001", "010", "1000", "0000", "9999", "12345", "-1", "+1", "1.0", "1_0"):
            self.refused(word)

    def test_names(self):
        for word in ("a", "abcdefgh", "boxes"):
            self.check(word, box(word))

    def test_no_names(self):
        for word in TAKEN + ("abcdefghi", "A", "a1", "1a", "box1", "abcdefghi1", "a_b", "a.b"):
            self.refused(word)

    def test_a_faulty_factor_among_good_ones(self):
        for factor in ("stop", "abcdefghi", "01", "1000", "a1", "2b", "B", ""):
            self.refused(f"a+{factor}")
            self.refused(f"{factor}*a")
            self.refused(f"a-({factor})")
            self.refused(f"({factor})-a")
            self.refused(f"a+{factor}+1")

    def test_each_sign(self):
        for sign in ("+", "-", "*"):
            self.check(f"a{sign}1", (sign, box("a"), number(1)))

    def test_like_signs_are_read_from_left_to_right(self):
        for sign in ("+", "-", "*"):
            self.check(f"a{sign}b{sign}c", (sign, (sign, box("a"), box("b")), box("c")))
        self.check("a-b+c", ("+", ("-", box("a"), box("b")), box("c")))
        self.check("a+b-c", ("-", ("+", box("a"), box("b")), box("c")))

    def test_times_goes_ahead(self):
        self.check("a+b*c", ("+", box("a"), ("*", box("b"), box("c"))))
        self.check("a*b+c", ("+", ("*", box("a"), box("b")), box("c")))
        self.check("a-b*c", ("-", box("a"), ("*", box("b"), box("c"))))
        self.check("a*b-c*2", ("-", ("*", box("a"), box("b")), ("*", box("c"), number(2))))
        self.check("a-b*c*d-e", (
            "-", ("-", box("a"), ("*", ("*", box("b"), box("c")), box("d"))), box("e")))

    def test_brackets(self):
        self.check("(a)", box("a"))
        self.check("((7))", number(7))
        self.check("a-(b-c)", ("-", box("a"), ("-", box("b"), box("c"))))
        self.check("a*(b+c)", ("*", box("a"), ("+", box("b"), box("c"))))
        self.check("(a+b)*c", ("*", ("+", box("a"), box("b")), box("c")))
        self.check("(a)*(b)", ("*", box("a"), box("b")))
        self.check("a*(b*c)", ("*", box("a"), ("*", box("b"), box("c"))))

    def test_words_that_are_no_expression(self):
        words = (
            "", "+", "-", "*", "+a", "-a", "*a", "a+", "a-", "a*", "a++b", "a+-b", "a**b", "a*-1", "a--b",
            "(", ")", "()", "(a", "a)", "(a))", "((a)", ")a(", "a()", "()a", "a(b)", "(a)b", "2(a)", "(a)2", "(a)(b)",
            "(+a)", "(a+)", "a+()", "a b", " a", "a ", "a +b", "a+ b", "a\n", "\na", "a+\nb", "a/b", "a<b", "a=b",
            "[a]", "{a}", "a,b", "a;", "$", "#", "'a'", '"', "\\", "a^b", "a&b", "a//b", "~a", "!a",
        )
        for word in words:
            self.refused(word)

    def test_sixty_signs_and_no_more(self):
        many = "+".join(["a"] * 29)
        for last, length in (("+1", 59), ("+10", 60)):
            self.assertEqual(len(many + last), length)
            self.check(many + last, by_python(many + last))
        self.assertEqual(len(many + "+100"), 61)
        self.refused(many + "+100")
        product = "*".join(["abcdefg"] * 7)
        self.assertEqual(len(f"({product}+10)"), 60)
        self.check(f"({product}+10)", by_python(f"({product}+10)"))
        self.refused(f"({product}+100)")

    def test_sixty_signs_with_many_brackets(self):
        word = "(a)*" * 14 + "(ab)"
        self.assertEqual(len(word), 60)
        self.check(word, by_python(word))
        self.refused(word + "+1")

    def test_brackets_five_within_one_another_and_no_more(self):
        for depth in range(1, 6):
            self.check("(" * depth + "a" + ")" * depth, box("a"))
        for depth in (6, 7, 20, 29):
            self.refused("(" * depth + "a" + ")" * depth)

    def test_brackets_beside_one_another_are_not_within(self):
        five = "(((((a)))))"
        self.check(f"{five}+{five}-{five}", (
            "-", ("+", box("a"), box("a")), box("a")))
        self.check("((((1+(a))*(b))-(2))+(c))*(3)", by_python("((((1+(a))*(b))-(2))+(c))*(3)"))
        self.refused(f"{five}+({five})")
        self.refused(f"(1+{five})")
        self.refused("1-(2-(3-(4-(5-(6-(7))))))")
        self.check("1-(2-(3-(4-(5-(6-7)))))", by_python("1-(2-(3-(4-(5-(6-7)))))"))

    def test_very_long_words(self):
        for word in ("a", "9", "0", "(", ")", "a+", "1*", "-", " ", "\n", "(a)"):
            self.refused(word * 100000)
        self.refused("(" * 50000 + "a" + ")" * 50000)
        self.refused("9" * 61)
        self.refused("9" * 5000)
        self.refused("+".join(["a"] * 5000))

    def test_each_sign_in_each_place(self):
        for code in range(ord(" "), ord("~") + 1):
            for form in ("{}", "1{}", "{}1", "1{}1", "a{}b", "(a){}(b)", "{}a)", "(a{}", "((a){}", "a+{}"):
                word = form.replace("{}", chr(code))
                if holds_by_shrinking(word):
                    self.check(word, by_python(word))
                else:
                    self.refused(word)

    def test_all_short_words(self):
        # Both sides are asked of every word of up to five signs out of these.
        for length in range(6):
            for signs in itertools.product("a10-*()", repeat=length):
                word = "".join(signs)
                try:
                    got = expression(word)
                except NoRow:
                    got = None
                asked = by_python(word) if holds_by_shrinking(word) else None
                self.assertEqual(got, asked, word)


class WorthTest(unittest.TestCase):
    def check(self, word, values, told):
        with self.subTest(word):
            got = worth(expression(word), values)
            self.assertIs(type(got), int)
            self.assertEqual(got, told)

    def test_numbers_and_boxes(self):
        self.check("0", {}, 0)
        self.check("999", {}, 999)
        self.check("a", {"a": 7, "b": 8}, 7)
        self.check("b", {"a": 7, "b": 8}, 8)

    def test_each_sign(self):
        self.check("7+5", {}, 12)
        self.check("7-5", {}, 2)
        self.check("7*5", {}, 35)

    def test_order_of_reckoning(self):
        self.check("2+3*4", {}, 14)
        self.check("2*3+4", {}, 10)
        self.check("(2+3)*4", {}, 20)
        self.check("10-3-2", {}, 5)
        self.check("10-(3-2)", {}, 9)
        self.check("10-3+2", {}, 9)
        self.check("a-b*c-d", {"a": 1, "b": 2, "c": 3, "d": 4}, -9)

    def test_below_nought(self):
        self.check("3-5", {}, -2)
        self.check("0-999", {}, -999)
        self.check("a*b", {"a": -3, "b": 4}, -12)
        self.check("a*b", {"a": -3, "b": -4}, 12)
        self.check("0-a", {"a": -5}, 5)
        self.check("a", {"a": -1}, -1)

    def test_great_ones(self):
        great = 10 ** 30 - 1
        self.check("a", {"a": great}, great)
        self.check("a+1", {"a": great}, 10 ** 30)
        self.check("a-1", {"a": -great}, -(10 ** 30))
        self.check("*".join(["a"] * 30), {"a": great}, great ** 30)
        self.check("*".join(["a"] * 29), {"a": -great}, -(great ** 29))
        self.check("*".join(["999"] * 15), {}, 999 ** 15)

    def test_worth_is_as_python_reckons(self):
        names = {"a": 3, "b": -17, "c": 1000003}
        factors = ("a", "b", "c", "(a-b)", "12")
        for parts in itertools.product(factors, "+-*", factors, "+-*", factors):
            word = "".join(parts)
            self.check(word, names, eval(word, {}, dict(names)))

    def test_nothing_handed_in_is_changed(self):
        e = expression("a*(b-2)+a")
        values = {"a": 5, "b": 6, "c": 7}
        kept = copy.deepcopy(e)
        self.assertEqual(worth(e, values), 25)
        self.assertEqual(worth(e, values), 25)
        self.assertEqual(values, {"a": 5, "b": 6, "c": 7})
        self.assertEqual(list(values), ["a", "b", "c"])
        self.assertEqual(e, kept)

    def test_other_values_later_tell_another_worth(self):
        e = expression("a+a")
        values = {"a": 1}
        self.assertEqual(worth(e, values), 2)
        values["a"] = 10
        self.assertEqual(worth(e, values), 20)


if __name__ == "__main__":
    unittest.main()
