"""The book of rules: what each call does and answers.

A name and a formula are tuples of bytes, a text is a list of bytes. An answer
is a number, a text or a name.
"""

from remade.formula import orders_of
from remade.making import Making
from remade.refusals import NoFormula, NoRule, Ring, TooLong
from remade.rule import Rule
from remade.tokens import is_name

MOST_RULES = 64
LONGEST_FORMULA = 1024

ABSENT = -2
BAD_NAME = -22
TOO_MUCH = -28
IN_A_RING = -40
BAD_FORMULA = -71

UNCHANGED = 0
CHANGED = 1
ADDED = 2


def made(making, name):
    """The text of a name, or the number of what stood in the way."""
    try:
        return making.make(name)
    except NoRule:
        return ABSENT
    except Ring:
        return IN_A_RING
    except TooLong:
        return TOO_MUCH


class Book:
    """The rules by their names, the latest time, and the last making's names."""

    def __init__(self):
        self.rules = {}
        self.latest = 0
        self.worked = []

    def mk_start(self):
        self.rules = {}
        self.latest = 0
        self.worked = []
        return 0

    def mk_rule(self, name, formula):
        if not is_name(name):
            return BAD_NAME
        if len(formula) > LONGEST_FORMULA:
            return TOO_MUCH
        try:
            orders = orders_of(formula)
        except NoFormula:
            return BAD_FORMULA
        return self.put_rule(name, formula, orders)

    def put_rule(self, name, formula, orders):
        if name not in self.rules:
            if len(self.rules) == MOST_RULES:
                return TOO_MUCH
            self.rules[name] = Rule(formula, orders)
            return ADDED
        if self.rules[name].formula == formula:
            return UNCHANGED
        self.rules[name].change(formula, orders)
        return CHANGED

    def mk_drop(self, name):
        if name not in self.rules:
            return ABSENT
        self.rules.pop(name)
        return len(self.rules)

    def mk_make(self, name):
        making = Making(self.rules, self.latest)
        answer = made(making, name)
        # A making that breaks off keeps what it worked out, so its times count.
        self.latest = making.latest
        self.worked = making.worked
        return answer

    def mk_worked(self, k):
        if k >= len(self.worked):
            return ABSENT
        return self.worked[k]
