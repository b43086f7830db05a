"""Calls and answers in words, and a plain second telling of the document.

The second telling (Known) is written for itself, by calls within calls and
over Python's bytes, so that it shares no mistake with the program.
"""

import re

from remade.desk import answers

WORDS = (b"if", b"then", b"else", b"get", b"first", b"rest", b"size")


def row(data):
    return [len(data)] + list(data)


def start():
    return [0]


def rule(name, formula):
    return [1] + row(name) + row(formula)


def drop(name):
    return [2] + row(name)


def make(name):
    return [3] + row(name)


def worked(k):
    return [4, k]


def split_answers(numbers):
    """Each answer as a number or as bytes; the form of each is looked at."""
    told = []
    at = 0
    while at < len(numbers):
        answer = numbers[at + 1:at + 1 + numbers[at]]
        assert len(answer) == numbers[at]
        at += 1 + numbers[at]
        if answer[0] == 0:
            assert len(answer) == 2
            told.append(answer[1])
        else:
            assert answer[0] == 1 and answer[1] == len(answer) - 2
            told.append(bytes(answer[2:]))
    return told


def ask(*calls):
    """What the calls behind a first mk_start answer."""
    numbers = start()
    for call in calls:
        numbers.extend(call)
    told = split_answers(answers(numbers))
    assert told[0] == 0 and len(told) == len(calls) + 1
    return told[1:]


def ask_last(*calls):
    return ask(*calls)[-1]


def given(formula):
    """What mk_rule answers for a formula, alone in the book."""
    return ask_last(rule(b"r", formula))


def stands_for(formula, **others):
    """What a formula stands for, or the code, beside some other rules."""
    calls = [rule(name.encode(), text) for name, text in others.items()]
    calls.append(rule(b"r", formula))
    for answer in ask(*calls):
        assert answer == 2, (formula, answer)
    return ask_last(*calls, make(b"r"))


def worked_calls(count=65):
    return [worked(k) for k in range(count)]


class Steps:
    """A list of calls that grows; each is asked for along with all before it."""

    def __init__(self):
        self.calls = []

    def do(self, call):
        self.calls.append(call)
        return ask_last(*self.calls)

    def rule(self, name, formula):
        return self.do(rule(name, formula))

    def drop(self, name):
        return self.do(drop(name))

    def make(self, name):
        return self.do(make(name))

    def worked(self):
        """The names that were worked out in the last making, in order."""
        told = ask(*self.calls, *worked_calls())
        names = told[len(self.calls):]
        return names[:names.index(-2)]

    def make_all(self, name):
        """The answer of a making, and what was worked out for it."""
        return self.make(name), self.worked()


# The second telling.

class Code(Exception):
    pass


TOKEN = re.compile(
    rb'[ \n]*(?:(?P<name>[a-z][a-z0-9_]*)|(?P<number>[0-9]+)'
    rb'|"(?P<string>(?:[^"\\\x00-\x1f]|\\["\\n])*)"|(?P<sign>[=&(),;]))[ \n]*')


def unescaped(data):
    return re.sub(rb"\\(.)", lambda m: {b"n": b"\n"}.get(m[1], m[1]), data)


def tokens(data):
    found = []
    at = len(data) - len(data.lstrip(b" \n"))
    while at < len(data):
        m = TOKEN.match(data, at)
        if m is None:
            raise Code(-71)
        kind = m.lastgroup
        text = m[kind]
        if kind == "name" and text in WORDS:
            kind = "word"
        if (kind == "name" and len(text) > 16) or (kind == "number" and len(text) > 4):
            raise Code(-71)
        found.append((kind, unescaped(text) if kind == "string" else text))
        at = m.end()
    return found


def parse(data):
    """A formula as a tree of tuples; Code(-71) if it is none."""
    rest = tokens(data)[::-1]

    def taken(kind, text=None):
        if not rest or rest[-1][0] != kind or text not in (None, rest[-1][1]):
            raise Code(-71)
        return rest.pop()[1]

    def seen(text):
        return bool(rest) and rest[-1][0] in ("word", "sign") and rest[-1][1] == text

    def formula(depth):
        if depth > 32:
            raise Code(-71)
        if not seen(b"if"):
            return join(depth)
        taken("word", b"if")
        left = join(depth)
        taken("sign", b"=")
        right = join(depth)
        taken("word", b"then")
        yes = formula(depth + 1)
        taken("word", b"else")
        return ("if", left, right, yes, formula(depth + 1))

    def join(depth):
        tree = part(depth)
        while seen(b"&"):
            taken("sign", b"&")
            tree = ("&", tree, part(depth))
        return tree

    def part(depth):
        if not rest:
            raise Code(-71)
        if rest[-1][0] in ("string", "name"):
            return rest.pop()
        word = taken("word").decode() if rest[-1][0] == "word" else ""
        if word not in ("", "get", "size", "first", "rest"):
            raise Code(-71)
        taken("sign", b"(")
        tree = formula(depth + 1)
        if word in ("first", "rest"):
            taken("sign", b",")
            tree = (word, tree, int(taken("number")))
        elif word != "":
            tree = (word, tree)
        taken("sign", b")")
        return tree

    tree = formula(1)
    if rest:
        raise Code(-71)
    return tree


def value(tree, read):
    """What a tree stands for; read(name) tells what a name does."""
    kind = tree[0]
    if kind == "string":
        return tree[1]
    if kind == "name":
        return read(tree[1])
    if kind == "get":
        return read(value(tree[1], read))
    if kind == "if":
        left = value(tree[1], read)
        return value(tree[3] if left == value(tree[2], read) else tree[4], read)
    if kind == "&":
        both = value(tree[1], read) + value(tree[2], read)
        if len(both) > 4096:
            raise Code(-28)
        return both
    text = value(tree[1], read)
    if kind == "size":
        return b"%d" % len(text)
    return text[:tree[2]] if kind == "first" else text[tree[2]:]


class Known:
    """The document's Making, told once more."""

    def __init__(self):
        self.formulas = {}
        self.text = {}
        self.time = {}
        self.reads = {}
        self.good = set()
        self.latest = 0
        self.worked = []
        # Why each name of the last making was worked out.
        self.reasons = {}

    def rule(self, name, formula):
        if self.formulas.get(name) == formula:
            return 0
        was = name in self.formulas
        self.formulas[name] = formula
        self.good.discard(name)
        return 1 if was else 2

    def drop(self, name):
        if self.formulas.pop(name, None) is None:
            return -2
        self.text.pop(name, None)
        self.time.pop(name, None)
        self.reads.pop(name, None)
        self.good.discard(name)
        return len(self.formulas)

    def make(self, name):
        self.worked = []
        self.reasons = {}
        self.up = set()
        self.path = []
        try:
            self.bring_up(name)
        except Code as code:
            return code.args[0]
        return self.text[name]

    def bring_up(self, name):
        if name in self.up:
            return
        if name not in self.formulas:
            raise Code(-2)
        if name in self.path:
            raise Code(-40)
        self.path.append(name)
        if name not in self.good:
            self.work_out(name, "not good")
        else:
            for other, time in self.reads[name]:
                self.bring_up(other)
                if self.time[other] != time:
                    self.work_out(name, other)
                    break
        self.path.pop()
        self.up.add(name)

    def work_out(self, name, reason):
        noted = []

        def read(other):
            self.bring_up(other)
            noted.append((other, self.time[other]))
            return self.text[other]

        text = value(parse(self.formulas[name]), read)
        if self.text.get(name) != text:
            self.latest += 1
            self.time[name] = self.latest
        self.text[name] = text
        self.reads[name] = noted
        self.good.add(name)
        self.worked.append(name)
        self.reasons[name] = reason
