"""Points 1 to 3: mk_start, mk_rule, mk_drop."""

import unittest

from remade.desk import answers
from tests.helper import WORDS, ask, ask_last, drop, make, rule, split_answers, start, worked


def names(count):
    return [b"n%d" % k for k in range(count)]


def full_book():
    return [rule(name, b'"x"') for name in names(64)]


class Start(unittest.TestCase):

    def test_answers_0(self):
        self.assertEqual(answers(start()), [2, 0, 0])

    def test_no_rules_are_left(self):
        told = ask(rule(b"a", b'"x"'), make(b"a"), start(), make(b"a"), drop(b"a"), rule(b"a", b'"x"'))
        self.assertEqual(told, [2, b"x", 0, -2, -2, 2])

    def test_no_making_is_left(self):
        told = ask(rule(b"a", b'"x"'), make(b"a"), worked(0), start(), worked(0))
        self.assertEqual(told, [2, b"x", b"a", 0, -2])

    def test_nothing_known_is_left(self):
        told = ask(rule(b"a", b'"x"'), make(b"a"), start(), rule(b"a", b'"x"'), make(b"a"), worked(0))
        self.assertEqual(told[-3:], [2, b"x", b"a"])

    def test_room_for_64_again(self):
        told = ask(*full_book(), start(), *full_book())
        self.assertEqual(told, [2] * 64 + [0] + [2] * 64)


class RuleAnswers(unittest.TestCase):

    def test_new_same_other(self):
        told = ask(rule(b"a", b'"x"'), rule(b"a", b'"x"'), rule(b"a", b'"y"'), rule(b"a", b'"x"'), rule(b"b", b"a"))
        self.assertEqual(told, [2, 0, 1, 1, 2])

    def test_same_means_the_very_same_bytes(self):
        told = ask(rule(b"a", b'"x"'), rule(b"a", b' "x"'), rule(b"a", b' "x"'), rule(b"a", b'("x")'))
        self.assertEqual(told, [2, 1, 0, 1])

    def test_a_name_that_is_read_needs_no_rule_yet(self):
        self.assertEqual(ask_last(rule(b"a", b"b & c")), 2)

    def test_refused_rules_change_nothing(self):
        told = ask(rule(b"a", b'"x"'), rule(b"a", b'"y'), rule(b"a", b"x" * 1025), rule(b"a", b'"x"'), make(b"a"))
        self.assertEqual(told, [2, -71, -28, 0, b"x"])

    def test_64_rules_and_one_more(self):
        told = ask(*full_book(), rule(b"more", b'"x"'), make(b"more"), rule(b"n63", b'"y"'), rule(b"n0", b'"x"'))
        self.assertEqual(told, [2] * 64 + [-28, -2, 1, 0])

    def test_room_after_a_drop(self):
        told = ask(*full_book(), drop(b"n5"), rule(b"more", b'"x"'), rule(b"n5", b'"x"'))
        self.assertEqual(told[64:], [63, 2, -28])


class Names(unittest.TestCase):

    def answer(self, name):
        return ask_last(rule(name, b'"x"'))

    def test_names(self):
        for name in (b"a", b"z", b"a0", b"a_", b"z9_z", b"iff", b"i", b"if_", b"get1", b"sizes", b"a" * 16, b"a" + b"9" * 15):
            self.assertEqual(self.answer(name), 2, name)

    def test_no_names(self):
        for name in (b"", b"A", b"aB", b"1", b"1a", b"_", b"_a", b"a b", b" a", b"a ", b"a-", b"a\n", b'"a"', b"a&", b"a\x00",
                     b"\xe4", b"a\xe4", b"`", b"{", b"a/", b"a:", b"a^", b"a" * 17):
            self.assertEqual(self.answer(name), -22, name)

    def test_words(self):
        for word in WORDS:
            self.assertEqual(self.answer(word), -22, word)

    def test_16_bytes_are_the_same_name_everywhere(self):
        name = b"abcdefghijklmno_"
        told = ask(rule(name, b'"x"'), rule(b"r", name), make(b"r"), make(name), drop(name))
        self.assertEqual(told, [2, 2, b"x", b"x", 1])


class OrderOfCodes(unittest.TestCase):

    def test_name_comes_before_length(self):
        self.assertEqual(ask_last(rule(b"", b" " * 1025)), -22)

    def test_name_comes_before_formula(self):
        self.assertEqual(ask_last(rule(b"if", b"")), -22)

    def test_name_comes_before_too_many(self):
        self.assertEqual(ask_last(*full_book(), rule(b"1", b'"x"')), -22)

    def test_length_comes_before_formula(self):
        self.assertEqual(ask_last(rule(b"a", b"$" * 1025)), -28)
        self.assertEqual(ask_last(rule(b"a", b"$" * 1024)), -71)

    def test_formula_comes_before_too_many(self):
        self.assertEqual(ask_last(*full_book(), rule(b"more", b"")), -71)

    def test_formula_of_1024_bytes_and_1025(self):
        for size, answer in ((1023, 2), (1024, 2), (1025, -28), (1100, -28)):
            self.assertEqual(ask_last(rule(b"a", b'"%s"' % (b"x" * (size - 2)))), answer, size)

    def test_a_rule_of_1024_bytes_is_whole(self):
        told = ask(rule(b"a", b'"%s"' % (b"x" * 1022)), make(b"a"))
        self.assertEqual(told, [2, b"x" * 1022])
        told = ask(rule(b"b", b'"y"'), rule(b"a", b"b&" * 511 + b" b"), make(b"a"))
        self.assertEqual(told, [2, 2, b"y" * 512])


class Drop(unittest.TestCase):

    def test_how_many_are_left(self):
        told = ask(rule(b"a", b'"x"'), rule(b"b", b'"x"'), drop(b"a"), drop(b"a"), drop(b"b"), drop(b"b"))
        self.assertEqual(told, [2, 2, 1, -2, 0, -2])

    def test_what_is_no_name_has_no_rule(self):
        for name in (b"", b"if", b"a" * 17, b"\xff"):
            self.assertEqual(ask_last(rule(b"a", b'"x"'), drop(name)), -2, name)

    def test_it_is_gone(self):
        told = ask(rule(b"a", b'"x"'), make(b"a"), drop(b"a"), make(b"a"), rule(b"a", b'"x"'))
        self.assertEqual(told, [2, b"x", 0, -2, 2])

    def test_with_all_that_is_known_of_it(self):
        told = ask(rule(b"a", b'"x"'), make(b"a"), drop(b"a"), rule(b"a", b'"x"'), make(b"a"), worked(0))
        self.assertEqual(told, [2, b"x", 0, 2, b"x", b"a"])

    def test_before_anything(self):
        self.assertEqual(split_answers(answers(start() + drop(b"a"))), [0, -2])
