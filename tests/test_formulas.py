"""Tokens, the grammar, and what a formula stands for."""

import random
import unittest

from tests.helper import WORDS, Code, ask, given, parse, rule, stands_for


def nested(depth, opening=b"(", closing=b")", inner=b'"x"'):
    """A formula whose innermost part lies that deep."""
    return opening * (depth - 1) + inner + closing * (depth - 1)


class Tokens(unittest.TestCase):

    def assert_formulas(self, *formulas):
        for formula in formulas:
            self.assertEqual(given(formula), 2, formula)

    def assert_none(self, *formulas):
        for formula in formulas:
            self.assertEqual(given(formula), -71, formula)

    def test_blanks(self):
        self.assert_formulas(b' "x"', b'\n"x"\n ', b'"x" \n & \n"y"', b"first \n ( a \n , 1 \n )",
                             b'if"x"="x"then"y"else"z"')
        self.assert_none(b"", b" ", b"\n", b'\t"x"', b'"x"\r', b'"x"\x00', b'"x"\xa0')

    def test_names_of_16_and_17_bytes(self):
        self.assert_formulas(b"a" * 16, b"a" + b"_" * 15, b"a" * 16 + b"&" + b"b" * 16)
        self.assert_none(b"a" * 17, b"a" * 16 + b"0", b"a" * 16 + b"_", b"a" * 16 + b" a", b"a" * 40)

    def test_words_are_no_names(self):
        self.assert_none(*WORDS)
        self.assert_none(*[b'"x" & ' + word for word in WORDS])
        self.assert_formulas(*[word + b"_" for word in WORDS])
        self.assert_formulas(*[b"x" + word for word in WORDS])

    def test_numbers_of_4_and_5_digits(self):
        for word in (b"first", b"rest"):
            for number in (b"0", b"00", b"9999", b"0000", b"0123"):
                self.assert_formulas(word + b"(a," + number + b")")
            for number in (b"00000", b"12345", b"10000", b"-1", b"+1", b"", b"1 2", b"1a", b"a", b'"1"', b"(1)", b"1,1"):
                self.assert_none(word + b"(a," + number + b")")

    def test_bytes_of_strings(self):
        for byte in range(256):
            if byte < 32 or byte in b'"\\':
                self.assert_none(b'"%c"' % byte)
            else:
                self.assertEqual(stands_for(b'"%c"' % byte), b"%c" % byte)

    def test_escapes(self):
        self.assertEqual(stands_for(b'"\\""'), b'"')
        self.assertEqual(stands_for(b'"\\\\"'), b"\\")
        self.assertEqual(stands_for(b'"\\n"'), b"\n")
        self.assertEqual(stands_for(b'"a\\"b\\\\c\\nd\\\\n"'), b'a"b\\c\nd\\n')
        for byte in range(256):
            if byte not in b'"\\n':
                self.assert_none(b'"\\%c"' % byte)

    def test_strings_without_an_end(self):
        self.assert_none(b'"', b'"x', b'"x\\"', b'"\\', b'"x" "', b'"x"" ')
        self.assert_formulas(b'""', b'"x\\\\"')

    def test_what_is_no_token(self):
        for byte in range(256):
            if byte not in b" \n":
                self.assert_none(b'"x" %c' % byte, b'%c "x"' % byte)
        self.assert_none(b"_a", b"A", b"aB", b"a.b", b"a+b", b"a'", b"a&&b", b"a=b", b"\xff")


class Grammar(unittest.TestCase):

    assert_formulas = Tokens.assert_formulas
    assert_none = Tokens.assert_none

    def test_formulas(self):
        self.assert_formulas(
            b"a", b"a&b&c", b"(a)", b"((a&b)&c)", b"get(a)", b"size(a)", b"first(a,1)", b"rest(a,1)",
            b"get(if a = b then c else d)", b"(if a = b then c else d) & e", b"if a & b = c & d then e & f else g & h",
            b"if (if a = b then c else d) = e then f else g", b"if a = b then if c = d then e else f else g",
            b"if a = b then c else if d = e then f else g", b"first(rest(get(size(a)),1),2)")

    def test_no_formulas(self):
        self.assert_none(
            b"a b", b"a &", b"& a", b"a & & b", b"(", b")", b"()", b"(a", b"a)", b"(a))", b"a;", b";", b"a = b;", b"a,b", b"(a,b)",
            b"get", b"get a", b"get()", b"get(a", b"get(a,1)", b"size()", b"size a", b"size(a,1)", b"first(a)", b"first(a,)",
            b"first(,1)", b"first a,1", b"rest(a)", b"rest(1,a)", b"first(a;1)", b"1", b"a & 1",
            b"if a = b then c", b"if a = b else c", b"if a then b else c", b"if a = b c else d", b"if a = b then c else",
            b"if a = b = c then d else e", b"if = b then c else d", b"if a = then c else d", b"if a = b then else c",
            b"a & if b = c then d else e", b"if if a = b then c else d = e then f else g",
            b"if a = if b = c then d else e then f else g", b"if a = b then c else d e", b"then", b"else a",
            b"if a = b then c else d else e", b'"x" "y"', b'get"a"')

    def test_nothing_behind(self):
        self.assert_none(b'"x";', b'"x" ;', b'"x"; b = "y"', b'"x" = "x"', b'"x" 1', b'"x")')


class Depth(unittest.TestCase):

    def assert_32_at_most(self, opening, closing, inner=b'"x"'):
        self.assertEqual(given(nested(31, opening, closing, inner)), 2)
        self.assertEqual(given(nested(32, opening, closing, inner)), 2)
        self.assertEqual(given(nested(33, opening, closing, inner)), -71)

    def test_parentheses(self):
        self.assert_32_at_most(b"(", b")")

    def test_words_with_parentheses(self):
        self.assert_32_at_most(b"get(", b")")
        self.assert_32_at_most(b"size(", b")")
        self.assert_32_at_most(b"first(", b",1)")
        self.assert_32_at_most(b"rest(", b",1)")

    def test_behind_then_and_else(self):
        self.assert_32_at_most(b"if a=b then ", b" else c")
        self.assert_32_at_most(b"if a=b then c else ", b"")

    def test_behind_if_and_its_equals_sign_it_is_no_deeper(self):
        self.assertEqual(given(nested(31, inner=b'if (a) = (b) then c else d')), 2)
        self.assertEqual(given(nested(32, inner=b'if a = (b) then c else d')), -71)
        self.assertEqual(given(nested(32, inner=b'if a = b then c else d')), -71)
        self.assertEqual(given(nested(31, inner=b'if a = b then c else (d)')), -71)

    def test_side_by_side_is_no_deeper(self):
        deep = nested(32)
        self.assertEqual(stands_for(b"&".join([deep] * 12)), b"x" * 12)
        self.assertEqual(given(b"(a)&" * 200 + b"b"), 2)

    def test_as_deep_as_the_bytes_allow(self):
        self.assertEqual(given(b"(" * 1024), -71)
        self.assertEqual(given(b"(" * 511 + b"ab" + b")" * 511), -71)
        self.assertEqual(given(b"if a=b then " * 85), -71)

    def test_32_deep_stands_for_something(self):
        self.assertEqual(stands_for(nested(32)), b"x")
        self.assertEqual(stands_for(nested(32, b"size(", b")")), b"1")
        self.assertEqual(stands_for(nested(32, b'if "x"="y" then "n" else ', b"")), b"x")


class StandsFor(unittest.TestCase):

    def test_strings_and_names(self):
        self.assertEqual(stands_for(b'""'), b"")
        self.assertEqual(stands_for(b"a", a=b'"x y"'), b"x y")
        self.assertEqual(stands_for(b"a", a=b"b", b=b"c", c=b'"z"'), b"z")

    def test_join(self):
        self.assertEqual(stands_for(b'"x" & a & "y" & a', a=b'"12"'), b"x12y12")
        self.assertEqual(stands_for(b'"" & "" & "x" & ""'), b"x")
        self.assertEqual(stands_for(b'"a" & ("b" & ("c" & "d")) & "e"'), b"abcde")

    def test_get(self):
        self.assertEqual(stands_for(b'get("a")', a=b'"x"'), b"x")
        self.assertEqual(stands_for(b"get(a)", a=b'"b"', b=b'"x"'), b"x")
        self.assertEqual(stands_for(b'get(a & "2")', a=b'"b"', b2=b'"x"'), b"x")
        self.assertEqual(stands_for(b'get(get(a))', a=b'"b"', b=b'"c"', c=b'"x"'), b"x")

    def test_get_of_what_is_no_name(self):
        for formula in (b'get("")', b'get("if")', b'get("A")', b'get("a ")', b'get(" a")', b'get("\\n")', b'get("%s")' % (b"a" * 17),
                        b'get("\xff")', b'get("nobody")'):
            self.assertEqual(stands_for(formula, a=b'"x"'), -2, formula)

    def test_size(self):
        self.assertEqual(stands_for(b'size("")'), b"0")
        self.assertEqual(stands_for(b'size("x")'), b"1")
        self.assertEqual(stands_for(b'size("\\n\\"")'), b"2")
        self.assertEqual(stands_for(b'size("%s")' % (b"x" * 10)), b"10")
        self.assertEqual(stands_for(b'size("%s")' % (b"x" * 1000)), b"1000")
        self.assertEqual(stands_for(b"size(a&a&a&a)", a=b'"%s"' % (b"x" * 1000) + b'&"%s"' % (b"y" * 10)), b"4040")

    def test_first_and_rest(self):
        for number, front, behind in ((b"0", b"", b"hello"), (b"1", b"h", b"ello"), (b"4", b"hell", b"o"), (b"5", b"hello", b""),
                                      (b"6", b"hello", b""), (b"9999", b"hello", b""), (b"0002", b"he", b"llo")):
            self.assertEqual(stands_for(b'first("hello",%s)' % number), front)
            self.assertEqual(stands_for(b'rest("hello",%s)' % number), behind)
        self.assertEqual(stands_for(b'first("",0)'), b"")
        self.assertEqual(stands_for(b'rest("",0)'), b"")
        self.assertEqual(stands_for(b'rest("",5)'), b"")

    def test_choice(self):
        self.assertEqual(stands_for(b'if "x" = "x" then "y" else "n"'), b"y")
        self.assertEqual(stands_for(b'if "x" = "X" then "y" else "n"'), b"n")
        self.assertEqual(stands_for(b'if "x" = "xx" then "y" else "n"'), b"n")
        self.assertEqual(stands_for(b'if "" = "" then "y" else "n"'), b"y")
        self.assertEqual(stands_for(b'if "x" & "y" = first("xyz", 2) then "y" else "n"'), b"y")
        self.assertEqual(stands_for(b'"<" & (if a = "1" then "y" else "n") & ">"', a=b'"1"'), b"<y>")
        self.assertEqual(stands_for(b'if a = "1" then "one" else if a = "2" then "two" else "many"', a=b'"2"'), b"two")
        self.assertEqual(stands_for(b'if a = "1" then if b = "1" then "11" else "10" else "0"', a=b'"1"', b=b'"0"'), b"10")

    def test_the_other_one_is_not_looked_at(self):
        self.assertEqual(stands_for(b'if "x" = "x" then "y" else r'), b"y")
        self.assertEqual(stands_for(b'if "x" = "y" then nobody else "n"'), b"n")
        self.assertEqual(stands_for(b'if "x" = "x" then "y" else a&a', a=b'"%s"&"%s"&"%s"' % ((b"x" * 300,) * 3)), b"y")

    def test_bytes_above_127(self):
        every = bytes(byte for byte in range(32, 256) if byte not in b'"\\')
        self.assertEqual(stands_for(b'a & "\xff"', a=b'"%s"' % every), every + b"\xff")


PIECES = WORDS + tuple(b"=&(),; \n\"" [k:k + 1] for k in range(9)) + (
    b"a", b"name_16_bytes_xx", b"name_17_bytes_xxx", b"7", b"1234", b"12345", b'"x"', b'""', b'"\\n"', b'"\\', b"first(", b",1)",
    b"get(", b"(", b")", b"if a = b then ", b" else ", b"&", b"$", b"\t")


def drawn_formula(lot, deep):
    kind = lot.randrange(8) if deep < 34 else 0
    if kind < 3:
        return lot.choice([b"a", b'"x"', b'"\\""'])
    inner = drawn_formula(lot, deep + 1)
    if kind == 3:
        return b"if " + inner + b" = b then " + drawn_formula(lot, deep + 1) + b" else " + inner
    if kind == 4:
        return inner + b"&" + drawn_formula(lot, deep + 1)
    if kind == 5:
        return b"(" + inner + b")"
    return lot.choice([b"get(%s)", b"size(%s)", b"first(%s,0)", b"rest( %s, 9999 )"]) % inner


def parsed(formula):
    try:
        parse(formula)
    except Code as code:
        return code.args[0]
    return 2


class DrawnByLot(unittest.TestCase):
    """Against the second telling of the grammar."""

    def assert_same(self, formulas):
        formulas = [formula for formula in formulas if len(formula) <= 1024]
        for k in range(0, len(formulas), 60):
            some = formulas[k:k + 60]
            told = ask(*[rule(b"n%d" % n, formula) for n, formula in enumerate(some)])
            for formula, answer in zip(some, told):
                self.assertEqual(answer, parsed(formula), formula)
        met = [parsed(formula) for formula in formulas]
        self.assertGreater(min(met.count(2), met.count(-71)), 100)

    def test_pieces_in_a_row(self):
        lot = random.Random(1)
        self.assert_same([b"".join(lot.choices(PIECES, k=lot.randrange(1, 5))) for _ in range(4000)])

    def test_formulas_with_one_byte_other(self):
        lot = random.Random(2)
        formulas = []
        for _ in range(2000):
            formula = drawn_formula(lot, 1)
            k = lot.randrange(len(formula))
            formulas += [formula, formula[:k] + formula[k + 1:], formula[:k] + lot.choice(PIECES) + formula[k:]]
        self.assert_same(formulas)

    def test_deep_formulas(self):
        lot = random.Random(3)
        formulas = []
        for _ in range(600):
            formula = drawn_formula(lot, 31)
            for _ in range(lot.randrange(25, 33)):
                formula = lot.choice([b"(%s)", b"get(%s)", b'if a="x"then %s else b', b"if a=b then c else %s", b"c&size(%s)"]) % formula
            formulas.append(formula)
        self.assert_same(formulas)
