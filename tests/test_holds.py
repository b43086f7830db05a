""""What holds", a to d, over many lists of calls that are drawn by lot.

The lot is seeded, so that each run tries the same lists.
"""

import random
import unittest

from tests.helper import Code, Known, ask, drop, make, parse, rule, worked_calls

# The rules of these mostly read names further on, so that not all is rings.
NAMES = [b"a", b"b", b"c", b"d", b"e", b"f", b"g", b"h"]
# The rules of these tell a name, for a get.
TELLERS = [b"p", b"q"]
MOST = len(NAMES) + len(TELLERS)
LISTS = 400
CHANGES = 12


class Lot:
    """Names and formulas, drawn by lot."""

    def __init__(self, seed):
        self.random = random.Random(seed)

    def one_in(self, count):
        return self.random.randrange(count) == 0

    def choice(self, things):
        return self.random.choice(things)

    def rule(self):
        """A name and a formula for it."""
        if self.one_in(5):
            return self.choice(TELLERS), self.teller()
        k = self.random.randrange(len(NAMES))
        return NAMES[k], self.rule_of(NAMES[k])

    def rule_of(self, name):
        if name in TELLERS:
            return self.teller()
        k = NAMES.index(name)
        readable = NAMES if self.one_in(8) else NAMES[k + 1:] or [b"nobody"]
        if k > 4 and not self.one_in(4):
            return self.string()
        formula = self.formula(readable, 1)
        return formula if len(formula) <= 1024 else b'"x"'

    def teller(self):
        if self.one_in(3):
            return b'if %s = "1" then "%s" else "%s"' % tuple(self.choice(NAMES[3:]) for _ in range(3))
        return b'"%s"' % self.choice(NAMES[3:] if not self.one_in(6) else NAMES + [b"nobody", b""])

    def string(self):
        if self.one_in(6):
            return b'"%s"' % (self.choice(NAMES) * self.choice([500, 900, 1000]))
        return b'"%s"' % self.choice([b"", b"0", b"1", b"1", b"x", b"yz", b'\\n\\"\\\\', b"\xff"])

    def formula(self, readable, deep):
        if deep < 4 and self.one_in(4):
            return b"if %s = %s then %s else %s" % (
                self.join(readable, deep), self.join(readable, deep),
                self.formula(readable, deep + 1), self.formula(readable, deep + 1))
        return self.join(readable, deep)

    def join(self, readable, deep):
        if self.one_in(12):
            return b"&".join([self.choice(readable)] * 6)
        parts = [self.part(readable, deep) for _ in range(self.choice([1, 1, 1, 2, 2, 3]))]
        return self.choice([b"&", b" & ", b"\n&"]).join(parts)

    def part(self, readable, deep):
        kind = self.random.randrange(16 if deep < 4 else 10)
        if kind < 6:
            return self.choice(readable)
        if kind < 8:
            return self.string() if not self.one_in(3) else b'"1"'
        if kind < 9:
            return b"get(%s)" % self.choice(TELLERS)
        if kind < 10:
            return b'get("%s")' % self.choice(readable)
        inner = self.formula(readable, deep + 1)
        if kind < 12:
            return b"(%s)" % inner
        if kind < 14:
            return b"size(%s)" % inner
        return b"%s(%s,%s)" % (self.choice([b"first", b"rest"]), inner, self.choice([b"0", b"1", b"2", b"30"]))


def is_formula(data):
    try:
        parse(data)
    except Code:
        return False
    return len(data) <= 1024


def before_refusal(names):
    """The names that mk_worked told, which end with a -2."""
    assert names.index(-2) == len(names) - 1, names
    return names[:-1]


class Making:
    """One making of a drawn list, and what the second telling knew ahead of it."""

    def __init__(self, known, name, at):
        self.name = name
        self.at = at
        self.formulas = dict(known.formulas)
        self.noted = {other: list(known.reads[other]) for other in known.good}
        self.answer = known.make(name)
        self.worked = list(known.worked)
        self.times = dict(known.time)

    def calls(self):
        return [make(self.name)] + worked_calls(len(self.worked) + 1)

    def told(self, answers):
        """The program's answer to this making, and the names that it worked out."""
        end = self.at + 2 + len(self.worked)
        return answers[self.at], before_refusal(answers[self.at + 1:end])

    def from_nothing(self):
        """What the program gives, and works out, with the rules alone."""
        calls = [rule(other, formula) for other, formula in self.formulas.items()]
        told = ask(*calls, make(self.name), *worked_calls(MOST + 1))[len(calls):]
        return told[0], told[1:told.index(-2, 1)]


class Drawn:
    """One list of calls drawn by lot, beside what the second telling knows."""

    def __init__(self, seed):
        self.lot = Lot(seed)
        self.calls = []
        self.expected = []
        self.known = Known()
        for name in NAMES + TELLERS:
            self.set_rule(name, self.lot.rule_of(name))

    def set_rule(self, name, formula):
        self.calls.append(rule(name, formula))
        self.expected.append(self.known.rule(name, formula))

    def drop_rule(self, name):
        self.calls.append(drop(name))
        self.expected.append(self.known.drop(name))

    def change(self):
        """One thing changed, as anybody might."""
        name = self.lot.choice(NAMES + TELLERS)
        if name not in self.known.formulas:
            self.set_rule(name, self.lot.rule_of(name))
        elif self.lot.one_in(10):
            self.drop_rule(name)
        elif self.lot.one_in(8):
            self.set_rule(name, self.known.formulas[name])
        else:
            self.set_rule(*self.lot.rule())

    def change_to_the_same(self):
        """Another formula of the same text for a good rule; its name, or None."""
        name = self.lot.choice(sorted(self.known.good) or [None])
        if name is None:
            return None
        formula = b'"" & (%s)' % self.known.formulas[name]
        if not is_formula(formula):
            return None
        self.set_rule(name, formula)
        return name

    def make(self, name):
        making = Making(self.known, name, len(self.calls))
        self.calls += making.calls()
        self.expected += [making.answer] + making.worked + [-2]
        return making

    def make_any(self):
        return self.make(self.lot.choice(NAMES[:4] + NAMES))

    def answers(self):
        assert len(self.calls) < 240 and sum(len(call) for call in self.calls) < 16000
        return ask(*self.calls)


def each_list():
    """Many lists, each with its makings."""
    for seed in range(LISTS):
        drawn = Drawn(seed)
        makings = []
        for _ in range(CHANGES):
            drawn.change()
            makings.append(drawn.make_any())
        yield seed, drawn, makings


def each_told_making():
    """The makings of many lists, with what the program told of each."""
    for seed, drawn, makings in each_list():
        answers = drawn.answers()
        for making in makings:
            yield seed, making, making.told(answers)


class Holds(unittest.TestCase):

    def test_each_answer_is_the_second_telling_s(self):
        for seed, drawn, _ in each_list():
            self.assertEqual(drawn.answers(), drawn.expected, seed)

    def test_the_lists_have_every_kind_of_answer(self):
        """Else the tests here would say little."""
        met = {-2: 0, -28: 0, -40: 0, "text": 0, "kept": 0, "worked out for what it read": 0}
        for _, _, makings in each_list():
            for making in makings:
                met[making.answer if isinstance(making.answer, int) else "text"] += 1
                met["kept"] += making.worked == [] and isinstance(making.answer, bytes)
                met["worked out for what it read"] += any(name in making.noted for name in making.worked)
        for kind, count in met.items():
            self.assertGreater(count, LISTS // 10, kind)

    def test_a_just_as_from_nothing(self):
        for seed, making, told in each_told_making():
            self.assertEqual(told[0], making.from_nothing()[0], (seed, making.at))

    def test_b_nothing_that_need_not_be(self):
        for seed, making, told in each_told_making():
            names = told[1]
            self.assertEqual(len(names), len(set(names)), (seed, making.at))
            self.assertLessEqual(set(names), set(making.from_nothing()[1]), (seed, making.at))
            for name in [name for name in names if name in making.noted]:
                became_other = [making.times.get(read) != time for read, time in making.noted[name]]
                self.assertIn(True, became_other, (seed, making.at))

    def test_c_made_again_at_once(self):
        for seed in range(LISTS):
            drawn = Drawn(seed)
            pairs = []
            for _ in range(CHANGES):
                drawn.change()
                making = drawn.make_any()
                pairs.append((making, drawn.make(making.name)))
            answers = drawn.answers()
            for making, again in pairs:
                self.assertEqual(again.told(answers), (making.told(answers)[0], []), (seed, making.at))

    def test_d_a_change_that_changes_nothing_stops_there(self):
        stopped = 0
        for seed in range(LISTS):
            drawn = Drawn(seed)
            pairs = []
            for _ in range(CHANGES):
                drawn.change()
                making = drawn.make_any()
                pairs.append((making, drawn.change_to_the_same(), drawn.make(making.name)))
            answers = drawn.answers()
            for making, changed, again in pairs:
                answer, names = again.told(answers)
                self.assertEqual(answer, making.told(answers)[0], (seed, making.at))
                self.assertIn(names, ([], [changed]), (seed, making.at))
                stopped += names == [changed] and changed != making.name
        self.assertGreater(stopped, LISTS // 10)
