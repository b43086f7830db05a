"""Formulas turned into orders, which can be gone through by a loop.

An order is a pair of its kind and its value:

- "text": the value, a list of bytes, is laid on the pile
- "read": the name on top of the pile gives way to what it stands for
- "copy": the text on top gives way to a copy of it, which may grow
- "join": the text on top is taken off, and put behind the copy below it
- "size": the text on top gives way to how many bytes it has
- "first", "rest": the text on top gives way to a piece; the value: cut where
- "unless_same": two texts are taken off; if they differ, go to order value
- "jump": go to order value

A formula within a formula could be gone through by calls within calls; but a
name that is read leads to the next formula, and too many of these may lie
within one another for that.
"""

from remade.refusals import NoFormula
from remade.tokens import tokens_of

DEEPEST = 32


class FormulaReader:
    """Tokens, how far they have been read, and the orders so far."""

    def __init__(self, tokens):
        self.tokens = tokens
        self.at = 0
        self.orders = []

    def at_end(self):
        return self.at == len(self.tokens)

    def sees(self, kind):
        return not self.at_end() and self.tokens[self.at][0] == kind

    def take(self, kind):
        """The value of the token that stands here, which must be of that kind."""
        if not self.sees(kind):
            raise NoFormula()
        value = self.tokens[self.at][1]
        self.at += 1
        return value

    def order(self, kind, value):
        self.orders.append((kind, value))

    def leave_gap(self):
        """The place of an order that can be told only later."""
        self.orders.append(None)
        return len(self.orders) - 1

    def fill_gap(self, place, kind):
        """Lets the order at that place go on with what comes next."""
        self.orders[place] = (kind, len(self.orders))

    def read_formula(self, depth):
        if depth > DEEPEST:
            raise NoFormula()
        if self.sees("if"):
            self.read_choice(depth)
        else:
            self.read_join(depth)

    def read_choice(self, depth):
        self.take("if")
        self.read_join(depth)
        self.take("=")
        self.read_join(depth)
        self.take("then")
        to_else = self.leave_gap()
        self.read_formula(depth + 1)
        self.take("else")
        to_end = self.leave_gap()
        self.fill_gap(to_else, "unless_same")
        self.read_formula(depth + 1)
        self.fill_gap(to_end, "jump")

    def read_join(self, depth):
        self.read_part(depth)
        if self.sees("&"):
            self.order("copy", None)
        while self.sees("&"):
            self.take("&")
            self.read_part(depth)
            self.order("join", None)

    def read_part(self, depth):
        if self.sees("string"):
            self.order("text", self.take("string"))
        elif self.sees("name"):
            self.order("text", list(self.take("name")))
            self.order("read", None)
        elif self.sees("get"):
            self.read_whole("get", "read", depth)
        elif self.sees("size"):
            self.read_whole("size", "size", depth)
        elif self.sees("first"):
            self.read_cut("first", depth)
        elif self.sees("rest"):
            self.read_cut("rest", depth)
        else:
            self.take("(")
            self.read_formula(depth + 1)
            self.take(")")

    def read_whole(self, word, kind, depth):
        self.take(word)
        self.take("(")
        self.read_formula(depth + 1)
        self.take(")")
        self.order(kind, None)

    def read_cut(self, word, depth):
        self.take(word)
        self.take("(")
        self.read_formula(depth + 1)
        self.take(",")
        place = self.take("number")
        self.take(")")
        self.order(word, place)


def orders_of(row):
    """The orders of a formula (a tuple of bytes); NoFormula if it is none."""
    reader = FormulaReader(tokens_of(row))
    reader.read_formula(1)
    if not reader.at_end():
        raise NoFormula()
    return reader.orders
