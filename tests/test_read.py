"""read: expressions, their values and their faults."""

import re
import unittest
from fractions import Fraction
from functools import lru_cache
from itertools import product
from math import gcd
from random import Random

from rootrows.numbers import minus, over, plus, power, read, times
from samples import FIELDS, Fixed, NO_FIELDS, ONE_EACH, PRODUCTS, product_of_fractions, row_of

ROOT_2 = [-2, 0]
DIGITS = b"0123456789"
# Primes that the denominators of the great numbers here have nothing to do with.
PRIMES = (2 ** 61 - 1, 2 ** 89 - 1)


def said(field, text):
    """What read answers to the text, which is told as Latin letters, one a byte."""
    return read(field, list(text.encode("latin-1")))


def tokens_of(text):
    return tuple(token for token in re.findall(r"[0-9]+|(?s:.)", text) if token != " ")


# The grammar word by word: each rule tries all ways to cut the tokens. A tree, or None if they are no such thing.

@lru_cache(None)
def sum_tree(tokens):
    for k in range(len(tokens) - 1, -1, -1):
        if tokens[k] in ("+", "-"):
            left, right = sum_tree(tokens[:k]), product_tree(tokens[k + 1:])
            if left and right:
                return (tokens[k], left, right)
    return product_tree(tokens)


@lru_cache(None)
def product_tree(tokens):
    for k in range(len(tokens) - 1, -1, -1):
        if tokens[k] in ("*", "/"):
            left, right = product_tree(tokens[:k]), power_tree(tokens[k + 1:])
            if left and right:
                return (tokens[k], left, right)
    return power_tree(tokens)


@lru_cache(None)
def power_tree(tokens):
    if len(tokens) > 2 and tokens[-2] == "^" and re.fullmatch("[0-9]{1,2}", tokens[-1]):
        base = atom_tree(tokens[:-2])
        return base and ("^", base, int(tokens[-1]))
    return atom_tree(tokens)


@lru_cache(None)
def atom_tree(tokens):
    if tokens == ("x",):
        return ("x",)
    if len(tokens) == 1 and re.fullmatch("[0-9]{1,9}", tokens[0]):
        return ("number", int(tokens[0]))
    if len(tokens) > 2 and tokens[0] == "(" and tokens[-1] == ")":
        return sum_tree(tokens[1:-1])
    if len(tokens) > 1 and tokens[0] == "-":
        inner = atom_tree(tokens[1:])
        return inner and ("negated", inner)
    return None


@lru_cache(None)
def can_go_on(text):
    """Whether some expression begins so; it need not be deep."""
    return any(sum_tree(tokens_of(text + end + ")" * k)) for end in ("", "1") for k in range(text.count("(") + 1))


def fault_of(text):
    return max(k for k in range(len(text) + 1) if can_go_on(text[:k]))


def value_of(field, tree):
    """The fractions of the tree's value, by another way than the program's; ZeroDivisionError if it divides by 0."""
    d = len(field)
    if tree[0] == "number":
        return [Fraction(tree[1])] + [Fraction(0)] * (d - 1)
    if tree[0] == "x":
        return [Fraction(-field[0])] if d == 1 else [Fraction(k == 1) for k in range(d)]
    left = value_of(field, tree[1])
    if tree[0] == "negated":
        return [-n for n in left]
    if tree[0] == "^":
        answer = [Fraction(k == 0) for k in range(d)]
        for k in range(tree[2]):
            answer = product_of_fractions(field, answer, left)
        return answer
    right = value_of(field, tree[2])
    if tree[0] == "+":
        return [m + n for m, n in zip(left, right)]
    if tree[0] == "-":
        return [m - n for m, n in zip(left, right)]
    if tree[0] == "*":
        return product_of_fractions(field, left, right)
    return product_of_fractions(field, left, inverse_by_elimination(field, right))


def inverse_by_elimination(field, number):
    d = len(field)
    powers = [[Fraction(i == k) for i in range(d)] for k in range(d)]
    lines = [product_of_fractions(field, p, number) + p for p in powers]
    for k in range(d):
        pivot = next((line for line in lines[k:] if line[k]), None)
        if pivot is None:
            raise ZeroDivisionError
        lines.remove(pivot)
        lines.insert(k, [n / pivot[k] for n in pivot])
        for i in range(d):
            if i != k:
                lines[i] = [m - lines[i][k] * n for m, n in zip(lines[i], lines[k])]
    # The line with 1 alone in its first half tells what the number must be multiplied with to give 1.
    return lines[0][d:]


def asked(field, text):
    """What the document asks for, if nothing is too deep or too long."""
    tree = sum_tree(tokens_of(text))
    if not tree:
        return [-6, fault_of(text)]
    try:
        return [0] + row_of(value_of(field, tree))
    except ZeroDivisionError:
        return [-5]


def modulo(prime, fraction):
    return fraction.numerator * pow(fraction.denominator, -1, prime) % prime


class Remainder:
    """A number of the field, modulo a prime: so great powers are checked without great numbers."""

    def __init__(self, field, prime, numbers):
        self.field, self.prime, self.numbers = field, prime, [n % prime for n in numbers]

    def times(self, other):
        answer = product_of_fractions(self.field, self.numbers, other.numbers)
        return Remainder(self.field, self.prime, [int(n) for n in answer])

    def power(self, k):
        answer = Remainder(self.field, self.prime, [1] + [0] * (len(self.field) - 1))
        for bit in bin(k)[2:]:
            answer = answer.times(answer)
            if bit == "1":
                answer = answer.times(self)
        return answer


def some_text(source, depth):
    """An expression of any kind, with spaces here and there."""
    kind = source.randrange(10) if depth else source.randrange(3)
    if kind == 0:
        text = str(source.choice([0, 1, 2, 3, 7, 12, 100, 999999999]))
    elif kind in (1, 2):
        text = "x"
    elif kind == 3:
        text = "-" + in_brackets(source, depth)
    elif kind == 4:
        text = in_brackets(source, depth) + "^" + source.choice(["0", "1", "2", "3", "02", "5"])
    else:
        text = some_text(source, depth - 1) + source.choice("++--*/") + in_brackets(source, depth)
    return source.choice(["", "", "", " "]) + text + source.choice(["", "", "", " ", "  "])


def in_brackets(source, depth):
    return "(" + some_text(source, depth - 1) + ")"


class ReadValueTest(unittest.TestCase):

    def test_written_out(self):
        for field, text, answer in [
            ([-5], "x", [0, 5, 1]),
            ([1000], "x", [0, -1000, 1]),
            ([-5], "x^2/3", [0, 25, 3]),
            (ROOT_2, "x", [0, 0, 1, 1]),
            (ROOT_2, "7", [0, 7, 0, 1]),
            (ROOT_2, "007", [0, 7, 0, 1]),
            (ROOT_2, "0", [0, 0, 0, 1]),
            (ROOT_2, "000000000", [0, 0, 0, 1]),
            (ROOT_2, "999999999", [0, 999999999, 0, 1]),
            (ROOT_2, "-7", [0, -7, 0, 1]),
            (ROOT_2, "--7", [0, 7, 0, 1]),
            (ROOT_2, "(x)", [0, 0, 1, 1]),
            (ROOT_2, "1+x", [0, 1, 1, 1]),
            (ROOT_2, "1-x-x-x", [0, 1, -3, 1]),
            (ROOT_2, "1-(x-x-x)", [0, 1, 1, 1]),
            (ROOT_2, "1-x+x-x", [0, 1, -1, 1]),
            (ROOT_2, "2*3+4", [0, 10, 0, 1]),
            (ROOT_2, "2+3*4", [0, 14, 0, 1]),
            (ROOT_2, "8/4/2", [0, 1, 0, 1]),
            (ROOT_2, "8/(4/2)", [0, 4, 0, 1]),
            (ROOT_2, "8/4*2", [0, 4, 0, 1]),
            (ROOT_2, "2*x/3*x", [0, 4, 0, 3]),
            (ROOT_2, "1/2+1/3", [0, 5, 0, 6]),
            (ROOT_2, "1/(1+x)", [0, -1, 1, 1]),
            (ROOT_2, "x^2", [0, 2, 0, 1]),
            (ROOT_2, "2*x^2", [0, 4, 0, 1]),
            (ROOT_2, "(2*x)^2", [0, 8, 0, 1]),
            (ROOT_2, "-x^2", [0, 2, 0, 1]),
            (ROOT_2, "-x^3", [0, 0, -2, 1]),
            (ROOT_2, "0-x^2", [0, -2, 0, 1]),
            (ROOT_2, "-(x^2)", [0, -2, 0, 1]),
            (ROOT_2, "--x^2", [0, 2, 0, 1]),
            (ROOT_2, "-3^2", [0, 9, 0, 1]),
            (ROOT_2, "1-3^2", [0, -8, 0, 1]),
            (ROOT_2, "1--3^2", [0, -8, 0, 1]),
            (ROOT_2, "2*-3", [0, -6, 0, 1]),
            (ROOT_2, "2/-3", [0, -2, 0, 3]),
            (ROOT_2, "2+-3", [0, -1, 0, 1]),
            (ROOT_2, "2- -3", [0, 5, 0, 1]),
            (ROOT_2, "-(-x)", [0, 0, 1, 1]),
            (ROOT_2, "(x^2)^3", [0, 8, 0, 1]),
            (ROOT_2, "x^99", [0, 0, 2 ** 49, 1]),
            (ROOT_2, "x^09", [0, 0, 16, 1]),
            (ROOT_2, "x^0", [0, 1, 0, 1]),
            (ROOT_2, "x^00", [0, 1, 0, 1]),
            (ROOT_2, "0^0", [0, 1, 0, 1]),
            (ROOT_2, "(x-x)^0", [0, 1, 0, 1]),
            (ROOT_2, "0^1", [0, 0, 0, 1]),
            (ROOT_2, "0^99", [0, 0, 0, 1]),
            (ROOT_2, "1/0^0", [0, 1, 0, 1]),
            (ROOT_2, "0/x", [0, 0, 0, 1]),
            (ROOT_2, "(1+x)^99*(1-x)^99", [0, -1, 0, 1]),
            ([-1, -1], "x^99", [0, 135301852344706746049, 218922995834555169026, 1]),
            ([-5, 0], "((1+x)/2)^10", [0, 123, 55, 2]),
            ([-2, 0, 0], "1/(1+x+x^2)", [0, -1, 1, 0, 1]),
            ([-2, 0, 0], "x^4/6", [0, 0, 1, 0, 3]),
            ([1, 0, 0, 0], "1/x", [0, 0, 0, 0, -1, 1]),
            ([1, 1, 1, 1], "x^4", [0, -1, -1, -1, -1, 1]),
            ([1, 1, 1, 1], "(x+1/x)^2+(x+1/x)-1", [0, 0, 0, 0, 0, 1]),
        ]:
            with self.subTest(field=field, text=text):
                self.assertEqual(said(field, text), answer)

    def test_spaces_everywhere_but_within_digits(self):
        text = "- ( 12 + x ) ^ 3 / 4 * x - - 15"
        tight = said(ROOT_2, text.replace(" ", ""))
        self.assertEqual(tight[0], 0)
        self.assertEqual(said(ROOT_2, text), tight)
        self.assertEqual(said(ROOT_2, "   " + text.replace(" ", "    ") + "     "), tight)

    def test_samples_of_each_degree(self):
        source = Random(5)
        kinds = set()
        for k in range(1200):
            field = FIELDS[k % len(FIELDS)][0]
            text = some_text(source, 4)
            if len(text) <= 512:
                answer = said(field, text)
                self.assertEqual(answer, asked(field, text), (field, text))
                kinds.add((len(field), answer[0]))
        self.assertEqual(kinds, set(product((1, 2, 3, 4), (0, -5))))

    def test_same_as_the_other_calls(self):
        for field in ONE_EACH:
            a = said(field, "(3*x-1)/7")[1:]
            b = said(field, "x/2+5")[1:]
            for sign, call in [("+", plus), ("-", minus), ("*", times), ("/", over)]:
                self.assertEqual(said(field, "((3*x-1)/7)" + sign + "(x/2+5)"), call(field, a, b))
            for k in range(21):
                self.assertEqual(said(field, "((3*x-1)/7)^" + str(k)), power(k, field, a))
                self.assertEqual(said(field, "1/((3*x-1)/7)^" + str(k)), power(-k, field, a))

    def test_x_is_a_root(self):
        for field, places in FIELDS:
            text = "+".join("(%s)*x^%d" % (n, k) for k, n in enumerate(field + [1])).replace("(-", "(0-")
            self.assertEqual(said(field, text), [0] + [0] * len(field) + [1])
            self.assertEqual(said(field, "1/(" + text + ")"), [-5])


class ReadRefusalTest(unittest.TestCase):

    def test_faults_written_out(self):
        for text, place in [
            ("", 0), (" ", 1), ("     ", 5),
            ("x+", 2), ("x + ", 4), ("x-", 2), ("x*", 2), ("x/ ", 3), ("-", 1), ("--", 2), ("(", 1), ("( ", 2),
            ("(x", 2), ("(x ", 3), ("((x)", 4), ("(x+", 3), ("x^", 2), ("x^  ", 4), ("(x)^", 4), ("-(", 2),
            (")", 0), ("x)", 1), ("(x))", 3), ("()", 1), ("( )", 2), ("(x+)", 3), ("-)", 1),
            ("x x", 2), ("xx", 1), ("x1", 1), ("1x", 1), ("2(x)", 1), ("(x)(x)", 3), ("(x)2", 3), ("x(", 1),
            ("1 2", 2), ("12 3", 3), ("1  2", 3), ("1 2 ", 2), ("x^1 2", 4), ("x^ 1  2", 6), ("x^12 3", 5),
            ("+x", 0), ("+", 0), ("*x", 0), ("/x", 0), ("^2", 0), (" +x", 1), ("x++x", 2), ("x-+x", 2), ("x**x", 2),
            ("x//x", 2), ("x*/x", 2), ("x+*x", 2), ("-+x", 1), ("(+x)", 1), ("-*x", 1),
            ("x^-1", 2), ("x^+1", 2), ("x^x", 2), ("x^(2)", 2), ("x^2^3", 3), ("x^2 ^3", 4), ("x^^2", 2), ("-^2", 1),
            ("x^2x", 3), ("x^2(", 3), ("2^3-x^2^2", 7),
            ("1234567890", 9), ("0000000000", 9), (" 1234567890", 10), ("x+1234567890123", 11), ("x^123", 4),
            ("x^000", 4), ("x^ 123", 5), ("x^1234567890", 4), ("(1234567890", 10), ("-1234567890", 10),
            ("1234567890x", 9), ("x1234567890", 1), ("x^2 123", 4),
            ("X", 0), ("y", 0), ("x.", 1), ("1.5", 1), ("1,5", 1), ("1e5", 1), ("x\t", 1), ("\tx", 0), ("x\n", 1),
            ("\n", 0), ("\0", 0), ("x\0", 1), ("[x]", 0), ("x\xa0", 1), ("\xff", 0), ("x+\x80", 2), ("x\xb2", 1),
            ("1/0+", 4), ("1/0)", 3), ("1/0 1", 4), ("(1/0", 4), ("1/(x-x)*", 8), ("1/0^", 4), ("1/0+1234567890", 13),
            ("(1/0))", 5), ("1/0+y", 4),
        ]:
            with self.subTest(text=text):
                self.assertEqual(said(ROOT_2, text), [-6, place])
                self.assertEqual(said([1, 0, -10, 0], text), [-6, place])

    def test_each_byte_at_each_kind_of_place(self):
        for front, allowed in [
            ("", b" (-x" + DIGITS), ("  ", b" (-x" + DIGITS), ("-", b" (-x" + DIGITS), ("(", b" (-x" + DIGITS),
            ("x+", b" (-x" + DIGITS), ("x-", b" (-x" + DIGITS), ("x*", b" (-x" + DIGITS), ("x/", b" (-x" + DIGITS),
            ("x", b" +-*/^"), ("-x", b" +-*/^"), ("(x)", b" +-*/^"), ("x ", b" +-*/^"), ("1 ", b" +-*/^"),
            ("(x", b" +-*/^)"), ("(1 ", b" +-*/^)"), ("(-x", b" +-*/^)"), ("((x)", b" +-*/^)"),
            ("1", b" +-*/^" + DIGITS), ("12345678", b" +-*/^" + DIGITS), ("123456789", b" +-*/^"),
            ("(1", b" +-*/^)" + DIGITS), ("(123456789", b" +-*/^)"),
            ("x^", b" " + DIGITS), ("x^ ", b" " + DIGITS), ("x^1", b" +-*/" + DIGITS), ("x^1 ", b" +-*/"),
            ("x^12", b" +-*/"), ("(x^1", b" +-*/)" + DIGITS), ("(x^12", b" +-*/)"), ("(x^12 ", b" +-*/)"),
        ]:
            for byte in range(256):
                answer = read(ROOT_2, list(front.encode()) + [byte])
                with self.subTest(front=front, byte=byte):
                    if byte in allowed:
                        self.assertNotEqual(answer, [-6, len(front)])
                    else:
                        self.assertEqual(answer, [-6, len(front)])

    def test_all_short_texts(self):
        for signs, longest in [("x10(-^+/*) ", 4), ("2(-^)", 6)]:
            for length in range(longest + 1):
                for text in map("".join, product(signs, repeat=length)):
                    self.assertEqual(said([-1], text), asked([-1], text), text)

    def test_texts_with_one_byte_changed(self):
        source = Random(6)
        for k in range(150):
            text = some_text(source, 3)[:60]
            place = source.randrange(len(text) + 1)
            text = text[:place] + source.choice("x7(-^+*/) y") + text[place + source.randrange(2):]
            self.assertEqual(said(ROOT_2, text), asked(ROOT_2, text), text)

    def test_depth(self):
        for text in ["(" * 16 + "x" + ")" * 16, "-" * 16 + "x", "(-" * 8 + "x" + ")" * 8, "-(" * 8 + "x" + ")" * 8,
                     "-" * 8 + "(" * 8 + "x" + ")" * 8, "(" * 8 + "-" * 8 + "x" + ")" * 8,
                     " ( - " * 8 + "x" + " ) " * 8]:
            with self.subTest(text=text):
                self.assertEqual(said(ROOT_2, text), [0, 0, 1, 1])
                self.assertEqual(said(ROOT_2, text + "+" + text), [0, 0, 2, 1])
                self.assertEqual(said(ROOT_2, text + "-" + text), [0, 0, 0, 1])
                self.assertEqual(said(ROOT_2, text + "^2*" + text), [0, 0, 2, 1])
                for front in ("(", "-"):
                    last = max(k for k in range(len(text)) if text[k] in "(-")
                    self.assertEqual(said(ROOT_2, front + text), [-6, last + 1])
                    deeper = text[:last + 1] + front + text[last + 1:]
                    self.assertEqual(said(ROOT_2, deeper), [-6, last + 1])

    def test_what_counts_as_open(self):
        for text, answer in [
            ("(" * 16 + "x-x" + ")" * 16, [0, 0, 0, 1]),
            ("(" * 16 + "x--x" + ")" * 16, [-6, 18]),
            ("(" * 16 + "x-(x)" + ")" * 16, [-6, 18]),
            ("(" * 16 + "-x" + ")" * 16, [-6, 16]),
            ("(" * 15 + "-x-x" + ")" * 15, [0, 0, -2, 1]),
            ("(" * 15 + "-x--x" + ")" * 15, [0, 0, 0, 1]),
            ("(" * 15 + "-x---x" + ")" * 15, [-6, 19]),
            ("(" * 15 + "-x+-x*-x+(x)" + ")" * 15, [0, 2, 0, 1]),
            ("(" * 15 + "-x^2*(x)" + ")" * 15, [0, 0, 2, 1]),
            ("-" + "(" * 15 + "x" + ")" * 15 + "*-" + "(" * 15 + "x" + ")" * 15, [0, 2, 0, 1]),
            ("-" + "(" * 15 + "-x" + ")" * 15, [-6, 16]),
            ("(" * 16 + "x" + ")" * 15 + "+(x))", [0, 0, 2, 1]),
            ("(" * 16 + "x" + ")" * 15 + "+((x)))" + "x", [-6, 39]),
            ("(" * 17, [-6, 16]), ("-" * 17, [-6, 16]), ("(" * 16, [-6, 16]), ("-" * 16, [-6, 16]),
            ("(" * 512, [-6, 16]), ("-" * 512, [-6, 16]), ("-(" * 256, [-6, 16]), ("x" + "-" * 511, [-6, 18]),
            ("(" * 16 + ")", [-6, 16]), ("1/0*" + "(" * 17, [-6, 20]),
            ("x" + "-" * 16 + "x", [0, 0, 2, 1]), ("x" + "-" * 17 + "x", [0, 0, 0, 1]),
            ("x" + "-" * 18 + "x", [-6, 18]),
        ]:
            with self.subTest(text=text):
                self.assertEqual(said(ROOT_2, text), answer)

    def test_division_by_0(self):
        for field in ONE_EACH:
            for text in ["1/0", "0/0", "x/0", "1/(x-x)", "1/0*0", "0*(1/0)", "(1/0)^0", "1/0^1", "1/-0", "1/(0/x)",
                         "1/0-1/0", "1/(1/0)", "1 / 000", "x+1/(2*x-x-x)+x", "1/0/0", "1/(1-x/x)", "-(1/0)"]:
                self.assertEqual(said(field, text), [-5], (field, text))
        self.assertEqual(said([-5], "1/(x-5)"), [-5])
        self.assertEqual(said([-5], "1/(x+5)"), [0, 1, 10])
        self.assertEqual(said(ROOT_2, "1/(x^2-2)"), [-5])
        self.assertEqual(said(ROOT_2, "1/(x^2-2)^0"), [0, 1, 0, 1])

    def test_lengths(self):
        for text, answer in [
            ("x" + " " * 511, [0, 0, 1, 1]), (" " * 511 + "x", [0, 0, 1, 1]), (" " * 512, [-6, 512]),
            (" " * 511 + "y", [-6, 511]), ("+" * 512, [-6, 0]), ("x" + "+x" * 255 + " ", [0, 0, 256, 1]),
            ("x" + "+x" * 255 + "+", [-6, 512]), ("1" * 512, [-6, 9]),
            ("x" + " " * 512, [-3]), (" " * 513, [-3]), ("+" * 513, [-3]), ("x" + "+x" * 256, [-3]),
            ("1/0" + " " * 510, [-3]), ("x" * 600, [-3]), (" " * 600, [-3]), ("(" * 600, [-3]),
        ]:
            with self.subTest(text=text):
                self.assertEqual(said(ROOT_2, text), answer)
        self.assertEqual(read(ROOT_2, [255] * 512), [-6, 0])
        self.assertEqual(read(ROOT_2, [255] * 513), [-3])

    def test_no_fields(self):
        for refusal, fields in [(-1, NO_FIELDS), (-2, PRODUCTS)]:
            for field in fields:
                for text in ("x", "", "y", "1/0", "x" * 600):
                    self.assertEqual(said(field, text), [refusal], (field, text))

    def test_first_refusal_counts(self):
        self.assertEqual(said([0, 1001], "1/0+" + " " * 510), [-1])
        self.assertEqual(said([0, 1000], "1/0+" + " " * 510), [-2])
        self.assertEqual(said([3, 1000], "1/0+" + " " * 510), [-3])
        self.assertEqual(said([3, 1000], "1/0+" + " " * 508), [-6, 512])
        self.assertEqual(said([3, 1000], "1/0 " + " " * 508), [-5])

    def test_what_is_handed_in_stays(self):
        for field, text in [(ROOT_2, "x + (12)^2"), (ROOT_2, "x + (12"), (ROOT_2, "1/0"), (ROOT_2, ""), ([0, 0], "x"),
                            ([], "x"), (ROOT_2, "x" * 600), ([1, 0, 0, 0], "1/(x+2)/-x")]:
            given = (Fixed(field), Fixed(text.encode()))
            first = read(*given)
            kept = list(first)
            self.assertEqual([list(g) for g in given], [field, list(text.encode())])
            first.append(99)
            self.assertEqual(read(*given), kept)

    def test_a_fault_leaves_nothing_behind(self):
        for text in ["(" * 16, "((x", "1/0", "x+", "1234567890"]:
            said(ROOT_2, text)
            self.assertEqual(said(ROOT_2, "(" * 16 + "x" + ")" * 16), [0, 0, 1, 1])

    def test_kinds(self):
        for field, text in [(ROOT_2, "x/2"), (ROOT_2, "x+"), (ROOT_2, "1/0"), (ROOT_2, "x" * 513), ([], "")]:
            answer = said(field, text)
            self.assertIs(type(answer), list)
            self.assertTrue(all(type(n) is int for n in answer))


class ReadGreatTest(unittest.TestCase):

    def check(self, field, text, base, k):
        """The text must be the number with the fractions of base to the power k, in its one form."""
        self.assertLessEqual(len(text), 512)
        answer = said(field, text)
        self.assertEqual((answer[0], len(answer)), (0, len(field) + 2))
        self.assertGreater(answer[-1], 0)
        self.assertEqual(gcd(*reversed(answer[1:])), 1)
        for prime in PRIMES:
            expected = Remainder(field, prime, [modulo(prime, n) for n in base]).power(k)
            last = pow(answer[-1], -1, prime)
            self.assertEqual([n * last % prime for n in answer[1:-1]], expected.numbers)
        return max(abs(n).bit_length() for n in answer)

    def test_long_sums(self):
        for field in ONE_EACH:
            text = "+".join("x/%d" % n for n in range(2, 102))
            base = value_of(field, sum_tree(tokens_of(text)))
            self.assertEqual(said(field, text), [0] + row_of(base))
            text = "-".join("1/(x+%d)" % n for n in range(10, 60))
            base = value_of(field, sum_tree(tokens_of(text)))
            self.assertEqual(said(field, text), [0] + row_of(base))

    def test_long_products(self):
        for field in ONE_EACH:
            text = "*".join("x" * 256)
            self.assertLess(self.check(field, text, value_of(field, ("x",)), 256), 2000)
            text = "/".join(["1"] + ["(x+3)"] * 80)
            base = value_of(field, sum_tree(tokens_of("1/(x+3)")))
            self.check(field, text, base, 80)
            text = "*".join(str(n) for n in range(999999999, 999999948, -1))
            answer = 1
            for n in range(999999999, 999999948, -1):
                answer *= n
            self.assertEqual(said(field, text), [0, answer] + [0] * (len(field) - 1) + [1])

    def test_sums_and_products_of_great_powers(self):
        for field in ONE_EACH:
            text = "*".join(["x^99"] * 102)
            self.check(field, text, value_of(field, ("x",)), 99 * 102)
            text = "(" + "+".join("1/%d^99" % n for n in range(999999999, 999999969, -1)) + ")^10"
            base = sum(Fraction(1, n ** 99) for n in range(999999999, 999999969, -1))
            self.assertEqual(said(field, text),
                             [0, base.numerator ** 10] + [0] * (len(field) - 1) + [base.denominator ** 10])

    def test_powers_of_powers(self):
        for field in ONE_EACH + ([997, 1000, 1000, 1000],):
            for inner in ["x+1", "(x+1)/(x+2)", "x/7-1/3", "1/(x/999999999+1)", "(x+1)/2"]:
                base = value_of(field, sum_tree(tokens_of(inner)))
                for text, k in [("((%s)^31)^32", 992), ("(((%s)^10)^10)^10", 1000), ("((%s)^99)^10", 990),
                                ("((((((((((%s)^2)^2)^2)^2)^2)^2)^2)^2)^2)^1", 512), ("1/((%s)^31)^32", -992)]:
                    if k < 0:
                        inverse = inverse_by_elimination(field, base)
                        self.check(field, text % inner, inverse, -k)
                    else:
                        self.check(field, text % inner, base, k)

    def test_powers_of_long_sums(self):
        field = [997, 1000, 1000, 1000]
        inner = "+".join("x/%d" % (999999999 - n) for n in range(30)) + "+x*x*x"
        base = value_of(field, sum_tree(tokens_of(inner)))
        self.assertGreater(self.check(field, "((" + inner + ")^31)^32", base, 992), 800000)

    def test_divisions_within_divisions(self):
        for field in ONE_EACH:
            for front in ["1/(x+", "x/(1/3-", "1/(1/x-", "(x+2)/(x/7+"]:
                inner = "x/5"
                base = value_of(field, sum_tree(tokens_of(inner)))
                for depth in range(16):
                    tree = sum_tree(tokens_of(front + "0)"))
                    right = value_of(field, tree[2][1])
                    right = [m + n if front[-1] == "+" else m - n for m, n in zip(right, base)]
                    base = product_of_fractions(field, value_of(field, tree[1]), inverse_by_elimination(field, right))
                    inner = front + inner + ")"
                self.assertEqual(said(field, inner), [0] + row_of(base), (field, front))
                self.assertEqual(said(field, "(" + inner + ")"), [-6, len(front) * 15 + front.index("(") + 1])

    def test_small_steps_behind_a_great_power(self):
        # What follows a great power must not cost as much as it did.
        field = [1, 0, -10, 0]
        inner = "x/999999999+1/999999998+x^2/999999997"
        base = value_of(field, sum_tree(tokens_of(inner)))
        front = "((" + inner + ")^31)^32"
        self.check(field, front + "*2/2" * 50 + "+1-1" * 50, base, 992)


if __name__ == "__main__":
    unittest.main()
