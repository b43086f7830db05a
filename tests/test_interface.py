"""The form of what is handed in and given back, and that nothing is kept."""

import unittest

from remade.desk import answers
from tests.helper import drop, make, row, rule, start, worked


def some_calls():
    calls = start() + rule(b"a", b'b & "y"') + rule(b"b", b'"x"') + make(b"a") + worked(0) + worked(9)
    calls += rule(b"if", b'"x"') + rule(b"c", b'"') + rule(b"c", b"x" * 1100) + drop(b"b") + make(b"a") + worked(0)
    return calls + start() + make(b"a")


class Watched(list):
    """A list that tells of any try to change it."""

    def refuse(self, *args, **kwargs):
        raise AssertionError("what was handed in is changed")

    append = extend = insert = pop = remove = clear = sort = reverse = refuse
    __setitem__ = __delitem__ = __iadd__ = __imul__ = refuse


class Form(unittest.TestCase):

    def test_numbers_in_and_out(self):
        self.assertEqual(answers([0]), [2, 0, 0])
        self.assertEqual(answers([0, 1, 1, 97, 3, 34, 120, 34]), [2, 0, 0, 2, 0, 2])
        self.assertEqual(answers([0, 1, 1, 97, 4, 34, 120, 121, 34, 3, 1, 97, 4, 0, 4, 1, 2, 1, 97]),
                         [2, 0, 0, 2, 0, 2, 4, 1, 2, 120, 121, 3, 1, 1, 97, 2, 0, -2, 2, 0, 0])

    def test_an_empty_text_has_its_form_and_count(self):
        self.assertEqual(answers(start() + rule(b"a", b'""') + make(b"a")), [2, 0, 0, 2, 0, 2, 2, 1, 0])

    def test_refusals_are_a_number_alone(self):
        self.assertEqual(answers(start() + make(b"")), [2, 0, 0, 2, 0, -2])
        self.assertEqual(answers(start() + rule(b"", b"")), [2, 0, 0, 2, 0, -22])
        self.assertEqual(answers(start() + rule(b"a", b"")), [2, 0, 0, 2, 0, -71])
        self.assertEqual(answers(start() + rule(b"a", b" " * 1025)), [2, 0, 0, 2, 0, -28])

    def test_all_of_some_calls(self):
        self.assertEqual(answers(some_calls()), [
            2, 0, 0, 2, 0, 2, 2, 0, 2, 4, 1, 2, 120, 121, 3, 1, 1, 98, 2, 0, -2,
            2, 0, -22, 2, 0, -71, 2, 0, -28, 2, 0, 1, 2, 0, -2, 2, 0, -2, 2, 0, 0, 2, 0, -2])

    def test_a_list_of_whole_numbers(self):
        told = answers(some_calls())
        self.assertIs(type(told), list)
        self.assertEqual({type(number) for number in told}, {int})

    def test_a_longer_formula_is_not_looked_at_but_skipped(self):
        calls = start() + [1] + row(b"a") + row(bytes([3] * 1100)) + make(b"a")
        self.assertEqual(answers(calls), [2, 0, 0, 2, 0, -28, 2, 0, -2])

    def test_240_calls(self):
        self.assertEqual(answers(start() * 240), [2, 0, 0] * 240)

    def test_16000_numbers(self):
        calls = start()
        k = 0
        while len(calls) + 1031 < 16000:
            calls += rule(b"n%d" % k, b'"%s"' % (b"x" * 1021))
            k += 1
        self.assertEqual(answers(calls), [2, 0, 0] + [2, 0, 2] * k)


class NothingKept(unittest.TestCase):

    def test_what_is_handed_in_is_as_it_was(self):
        calls = some_calls()
        before = list(calls)
        answers(calls)
        self.assertEqual(calls, before)

    def test_it_is_not_changed_for_a_while_either(self):
        self.assertEqual(answers(Watched(some_calls())), answers(some_calls()))

    def test_a_second_time_gives_the_same(self):
        calls = some_calls()
        first = answers(calls)
        copy = list(first)
        self.assertEqual(answers(calls), copy)
        self.assertEqual(answers(list(calls)), copy)
        self.assertEqual(first, copy)

    def test_nothing_of_one_list_is_known_to_the_next(self):
        answers(start() + rule(b"a", b'"x"') + make(b"a"))
        self.assertEqual(answers(start() + make(b"a") + worked(0)), [2, 0, 0, 2, 0, -2, 2, 0, -2])

    def test_what_is_given_back_may_be_changed(self):
        calls = some_calls()
        first = answers(calls)
        copy = list(first)
        first.clear()
        self.assertEqual(answers(calls), copy)
