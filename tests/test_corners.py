"""The corners that the document names, of both parts."""

import unittest

from tests.helper import Steps, stands_for


class MadeAgain(unittest.TestCase):

    def setUp(self):
        self.steps = Steps()

    def rules(self, **formulas):
        for name, formula in formulas.items():
            self.steps.rule(name.encode(), formula)

    def assert_made(self, name, answer, *names):
        self.assertEqual(self.steps.make_all(name), (answer, list(names)))

    def test_a_rule_set_to_what_it_was(self):
        self.rules(a=b"b", b=b'"x"')
        self.assert_made(b"a", b"x", b"b", b"a")
        self.assertEqual(self.steps.rule(b"b", b'"x"'), 0)
        self.assert_made(b"a", b"x")

    def test_changed_and_changed_back(self):
        self.rules(a=b"b", b=b'"x"')
        self.steps.make(b"a")
        self.rules(b=b'"y"')
        self.rules(b=b'"x"')
        self.assert_made(b"a", b"x", b"b")

    def test_changed_made_and_changed_back(self):
        self.rules(a=b"b", c=b"b", b=b'"x"')
        self.assert_made(b"a", b"x", b"b", b"a")
        self.assert_made(b"c", b"x", b"c")
        self.rules(b=b'"y"')
        self.assert_made(b"a", b"y", b"b", b"a")
        self.rules(b=b'"x"')
        self.assert_made(b"a", b"x", b"b", b"a")
        # It became other twice since c read it, if to the same again.
        self.assert_made(b"c", b"x", b"c")

    def test_a_change_that_changes_nothing_stops_there(self):
        self.rules(a=b"b & c", b=b"first(d,1)", c=b"d", d=b'"xy"')
        self.assert_made(b"a", b"xxy", b"d", b"b", b"c", b"a")
        self.rules(d=b'"x" & "y"')
        self.assert_made(b"a", b"xxy", b"d")
        self.rules(d=b'"xz"', c=b'"c"')
        self.assert_made(b"a", b"xc", b"d", b"b", b"c", b"a")
        self.rules(d=b'"xx"')
        self.assert_made(b"a", b"xc", b"d", b"b")

    def test_only_what_must_be(self):
        self.rules(a=b"b & c", b=b'"b"', c=b"d", d=b'"d"', e=b"c")
        self.steps.make(b"a")
        self.steps.make(b"e")
        self.rules(b=b'"B"')
        self.assert_made(b"a", b"Bd", b"b", b"a")
        self.assert_made(b"e", b"d")

    def test_a_name_that_is_no_longer_read(self):
        self.rules(a=b'if b = "1" then c else "no"', b=b'"1"', c=b'"c"')
        self.assert_made(b"a", b"c", b"b", b"c", b"a")
        self.rules(b=b'"0"')
        self.assert_made(b"a", b"no", b"b", b"a")
        self.rules(c=b"nobody")
        self.assert_made(b"a", b"no")
        self.steps.drop(b"c")
        self.assert_made(b"a", b"no")

    def test_a_name_behind_one_that_became_other_is_not_brought_up(self):
        self.rules(a=b'if b = "1" then c else "no"', b=b'"1"', c=b'"c"')
        self.steps.make(b"a")
        self.rules(b=b'"0"', c=b'"other"')
        self.assert_made(b"a", b"no", b"b", b"a")
        self.assert_made(b"c", b"other", b"c")

    def test_a_ring_behind_one_that_became_other_is_not_met(self):
        self.rules(a=b'if b = "1" then c else "no"', b=b'"1"', c=b'"c"')
        self.steps.make(b"a")
        self.rules(b=b'"0"', c=b"a")
        self.assert_made(b"a", b"no", b"b", b"a")

    def test_names_are_checked_in_the_order_in_which_they_were_read(self):
        self.rules(a=b"c & b", b=b'"b"', c=b'"c"')
        self.steps.make(b"a")
        self.rules(b=b"nobody", c=b"c")
        self.assert_made(b"a", -40)
        self.rules(c=b'"c" & ""')
        self.assert_made(b"a", -2, b"c")

    def test_a_get_that_tells_another_name(self):
        self.rules(a=b"get(b)", b=b'"c"', c=b'"C"', d=b'"D"')
        self.assert_made(b"a", b"C", b"b", b"c", b"a")
        self.rules(b=b'"d"')
        self.assert_made(b"a", b"D", b"b", b"d", b"a")
        self.rules(c=b'"other"')
        self.assert_made(b"a", b"D")
        self.rules(d=b'"other"')
        self.assert_made(b"a", b"other", b"d", b"a")
        self.rules(b=b'"nobody"')
        self.assert_made(b"a", -2, b"b")
        self.rules(b=b'"a"')
        self.assert_made(b"a", -40, b"b")
        self.rules(b=b'"d"')
        self.assert_made(b"a", b"other", b"b", b"a")

    def test_a_ring_that_comes_of_a_change_and_goes(self):
        self.rules(a=b"b", b=b"c", c=b'"c"')
        self.assert_made(b"a", b"c", b"c", b"b", b"a")
        self.rules(c=b"a")
        self.assert_made(b"a", -40)
        self.assert_made(b"b", -40)
        self.assert_made(b"c", -40)
        self.rules(c=b'"c"')
        self.assert_made(b"a", b"c", b"c")
        self.rules(c=b'"d"')
        self.assert_made(b"a", b"d", b"c", b"b", b"a")

    def test_a_rule_dropped_and_given_anew(self):
        self.rules(a=b"b", b=b"c", c=b'"c"')
        self.steps.make(b"a")
        self.steps.drop(b"c")
        self.assert_made(b"a", -2)
        self.rules(c=b'"c"')
        # Nothing was known of c any more, so its text is a new one.
        self.assert_made(b"a", b"c", b"c", b"b")

    def test_times_go_on_after_a_drop(self):
        self.rules(a=b"b", b=b'"x"')
        self.steps.make(b"b")
        self.steps.make(b"a")
        self.steps.drop(b"b")
        self.rules(b=b'"y"')
        self.assert_made(b"a", b"y", b"b", b"a")
        self.steps.drop(b"a")
        self.steps.drop(b"b")
        self.rules(a=b"b", b=b'"z"')
        self.assert_made(b"a", b"z", b"b", b"a")

    def test_a_code_in_the_middle(self):
        self.rules(a=b"b & c & d", b=b'"b"', c=b"nobody", d=b'"d"')
        self.assert_made(b"a", -2, b"b")
        self.assert_made(b"a", -2)
        self.rules(c=b'"c"')
        self.assert_made(b"a", b"bcd", b"c", b"d", b"a")
        self.rules(b=b'"B"', c=b"a")
        self.assert_made(b"a", -40, b"b")
        self.assert_made(b"a", -40)
        self.rules(c=b'"c"')
        self.assert_made(b"a", b"Bcd", b"c", b"a")

    def test_of_a_name_not_worked_out_to_its_end_nothing_changes(self):
        self.rules(a=b"size(b & c)", b=b'"b"', c=b'"c"')
        self.assert_made(b"a", b"2", b"b", b"c", b"a")
        self.rules(z=b"a")
        self.assert_made(b"z", b"2", b"z")
        self.rules(b=b'"B"')
        self.steps.drop(b"c")
        self.assert_made(b"z", -2, b"b")
        self.rules(c=b'"C"')
        self.assert_made(b"z", b"2", b"c", b"a")

    def test_a_changed_rule_that_gives_a_code_keeps_its_text(self):
        self.rules(a=b"b", b=b'"x"')
        self.steps.make(b"a")
        self.rules(b=b"nobody")
        self.assert_made(b"a", -2)
        self.rules(b=b'"x"')
        self.assert_made(b"a", b"x", b"b")

    def test_a_rule_that_is_made_by_itself_first(self):
        self.rules(a=b"b", b=b'"x"')
        self.assert_made(b"b", b"x", b"b")
        self.assert_made(b"a", b"x", b"a")
        self.rules(b=b'"y"')
        self.assert_made(b"b", b"y", b"b")
        self.assert_made(b"a", b"y", b"a")

    def test_a_rule_of_1024_bytes(self):
        self.rules(b=b'"x"', a=b"b&" * 511 + b" b")
        self.assert_made(b"a", b"x" * 512, b"b", b"a")
        self.assert_made(b"a", b"x" * 512)
        self.rules(b=b'"y"')
        self.assert_made(b"a", b"y" * 512, b"b", b"a")


class TextsOfTexts(unittest.TestCase):

    def test_corners(self):
        self.assertEqual(stands_for(b"r"), -40)
        self.assertEqual(stands_for(b'get("a")', a=b'get("r")'), -40)
        self.assertEqual(stands_for(b'if "x" = "x" then "y" else r'), b"y")
        self.assertEqual(stands_for(b'"\\""'), b'"')
        self.assertEqual(stands_for(b'get("")'), -2)
        self.assertEqual(stands_for(b"a" * 16, **{"a" * 16: b'"x"'}), b"x")
        self.assertEqual(stands_for(b'first("abc", 0)'), b"")
        self.assertEqual(stands_for(b'size("")'), b"0")
        self.assertEqual(stands_for(b'"x"', never=b"nobody"), b"x")

    def test_names_changed_for_others_throughout(self):
        self.assertEqual(stands_for(b"a & b & a", a=b"size(b)", b=b'"xyz"'),
                         stands_for(b"p_1 & if_ & p_1", p_1=b"size(if_)", if_=b'"xyz"'))
