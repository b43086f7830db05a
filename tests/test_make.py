"""Points 4 and 5: mk_make, mk_worked."""

import unittest

from tests.helper import Steps, ask, ask_last, drop, make, rule, stands_for, worked

X1000 = b'"%s"' % (b"x" * 1000)


class Make(unittest.TestCase):

    def test_text(self):
        self.assertEqual(ask(rule(b"a", b'"x"'), make(b"a")), [2, b"x"])
        self.assertEqual(ask_last(rule(b"a", b'""'), make(b"a")), b"")

    def test_no_rule(self):
        self.assertEqual(ask(make(b"a")), [-2])
        for name in (b"", b"b", b"if", b"a" * 17, b"\x00"):
            self.assertEqual(ask_last(rule(b"a", b'"x"'), make(name)), -2, name)

    def test_no_rule_of_a_name_that_is_read(self):
        self.assertEqual(stands_for(b"nobody"), -2)
        self.assertEqual(stands_for(b"a", a=b"b", b=b"nobody"), -2)
        self.assertEqual(stands_for(b'get("")'), -2)

    def test_a_rule_that_is_not_read_has_no_part_in_it(self):
        self.assertEqual(stands_for(b'"x"', a=b"nobody", b=b"b"), b"x")

    def test_rings(self):
        self.assertEqual(stands_for(b"r"), -40)
        self.assertEqual(stands_for(b'get("r")'), -40)
        self.assertEqual(stands_for(b"a", a=b"b", b=b"r"), -40)
        self.assertEqual(stands_for(b"a", a=b"b", b=b"a"), -40)
        self.assertEqual(stands_for(b"a", a=b'get("" & b)', b=b'"r"'), -40)
        self.assertEqual(stands_for(b"first(r,0)"), -40)

    def test_twice_is_no_ring(self):
        self.assertEqual(stands_for(b"a & b & a", a=b"c", b=b"c & c", c=b'"x"'), b"xxxx")

    def test_4096_bytes_and_one_more(self):
        big = dict(a=X1000, b=b"a&a&a&a", c=b'b & "%s"' % (b"y" * 96))
        self.assertEqual(stands_for(b"c", **big), b"x" * 4000 + b"y" * 96)
        self.assertEqual(stands_for(b'c & ""', **big), b"x" * 4000 + b"y" * 96)
        self.assertEqual(stands_for(b'"" & c', **big), b"x" * 4000 + b"y" * 96)
        self.assertEqual(stands_for(b'c & "z"', **big), -28)
        self.assertEqual(stands_for(b'"z" & c', **big), -28)
        self.assertEqual(stands_for(b'rest(c, 1) & "z"', **big), b"x" * 3999 + b"y" * 96 + b"z")
        self.assertEqual(stands_for(b"size(c)", **big), b"4096")
        self.assertEqual(stands_for(b"first(c, 4096)", **big), b"x" * 4000 + b"y" * 96)

    def test_too_long_of_any_part(self):
        big = dict(a=X1000, b=b"a&a&a&a")
        self.assertEqual(stands_for(b"size(b & a)", **big), -28)
        self.assertEqual(stands_for(b"first(b & a, 1)", **big), -28)
        self.assertEqual(stands_for(b"get(b & a)", **big), -28)
        self.assertEqual(stands_for(b'if b & a = "" then "" else ""', **big), -28)
        self.assertEqual(stands_for(b'if "" = b & a then "" else ""', **big), -28)
        self.assertEqual(stands_for(b"c", c=b"b & a", **big), -28)

    def test_the_first_code_from_left_to_right(self):
        big = dict(a=X1000, b=b"a&a&a&a")
        self.assertEqual(stands_for(b"nobody & r"), -2)
        self.assertEqual(stands_for(b"r & nobody"), -40)
        self.assertEqual(stands_for(b"b & a & nobody", **big), -28)
        self.assertEqual(stands_for(b"b & (a & nobody)", **big), -2)
        self.assertEqual(stands_for(b"b & nobody & a", **big), -2)
        self.assertEqual(stands_for(b"if nobody = r then b & a else r", **big), -2)
        self.assertEqual(stands_for(b'if "x" = r then nobody else nobody', **big), -40)
        self.assertEqual(stands_for(b"a & c", a=b"nobody", c=b"r"), -2)
        self.assertEqual(stands_for(b"c & a", a=b"nobody", c=b"r"), -40)

    def test_never_too_many_reads(self):
        others = {"a%d" % k: b"a%d&a%d" % (k + 1, k + 1) for k in range(60)}
        self.assertEqual(stands_for(b"a0", a60=b'""', **others), b"")

    def test_64_rules_in_a_row(self):
        steps = Steps()
        for k in range(63):
            steps.rule(b"n%d" % k, b"(" * 31 + b"n%d" % (k + 1) + b")" * 31)
        steps.rule(b"n63", b'"x"')
        order = [b"n%d" % k for k in reversed(range(64))]
        self.assertEqual(steps.make_all(b"n0"), (b"x", order))
        self.assertEqual(steps.make_all(b"n0"), (b"x", []))
        steps.rule(b"n63", b'"y"')
        self.assertEqual(steps.make_all(b"n0"), (b"y", order))
        steps.rule(b"n63", b"n0")
        self.assertEqual(steps.make_all(b"n0"), (-40, []))

    def test_64_rules_in_a_row_that_read_only_in_checking(self):
        steps = Steps()
        for k in range(63):
            steps.rule(b"n%d" % k, b'n%d & ""' % (k + 1))
        steps.rule(b"n63", b'"x"')
        steps.make(b"n0")
        steps.drop(b"n63")
        self.assertEqual(steps.make_all(b"n0"), (-2, []))
        steps.rule(b"n63", b'"x"')
        self.assertEqual(steps.make_all(b"n63"), (b"x", [b"n63"]))


class Worked(unittest.TestCase):

    def test_none_since_start(self):
        self.assertEqual(ask(worked(0)), [-2])
        self.assertEqual(ask(rule(b"a", b'"x"'), worked(0), worked(1)), [2, -2, -2])

    def test_in_the_order_in_which_they_were_through(self):
        steps = Steps()
        steps.rule(b"a", b"b & c & b")
        steps.rule(b"b", b"d")
        steps.rule(b"c", b'get("d") & e')
        steps.rule(b"d", b'"d"')
        steps.rule(b"e", b'"e"')
        self.assertEqual(steps.make_all(b"a"), (b"dded", [b"d", b"b", b"e", b"c", b"a"]))

    def test_edges_of_k(self):
        told = ask(rule(b"a", b"b"), rule(b"b", b'"x"'), make(b"a"), worked(0), worked(1), worked(2), worked(2 ** 63 - 1))
        self.assertEqual(told[3:], [b"b", b"a", -2, -2])

    def test_asking_changes_nothing(self):
        told = ask(rule(b"a", b'"x"'), make(b"a"), worked(0), worked(0), worked(1), worked(0))
        self.assertEqual(told[2:], [b"a", b"a", -2, b"a"])

    def test_only_the_last_making(self):
        told = ask(rule(b"a", b'"x"'), make(b"a"), worked(0), make(b"a"), worked(0))
        self.assertEqual(told[2:], [b"a", b"x", -2])
        told = ask(rule(b"a", b'"x"'), make(b"a"), make(b"nobody"), worked(0))
        self.assertEqual(told[2:], [-2, -2])

    def test_other_calls_leave_it(self):
        told = ask(rule(b"a", b'"x"'), make(b"a"), rule(b"a", b'"y"'), rule(b"b", b"$"), worked(0), drop(b"a"), worked(0))
        self.assertEqual(told[2:], [1, -71, b"a", 0, b"a"])

    def test_a_making_that_gives_a_code(self):
        for formula, code in ((b"b & nobody & c", -2), (b"b & a & c", -40), (b"b & (b & d) & c", -28)):
            told = ask(rule(b"a", formula), rule(b"b", b'"b"'), rule(b"c", b'"c"'), rule(b"e", X1000),
                       rule(b"d", b'e & e & e & e & first(e, 96)'), make(b"a"), worked(0), worked(1), worked(2), worked(3))
            names = [b"b"] if code != -28 else [b"b", b"e", b"d"]
            self.assertEqual(told[5:], [code] + names + [-2] * (4 - len(names)), formula)
