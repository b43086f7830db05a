"""One name on its way to being brought up."""

from remade.refusals import TooLong

LONGEST_TEXT = 4096


def grow(front, behind):
    if len(front) + len(behind) > LONGEST_TEXT:
        raise TooLong()
    front.extend(behind)


def size_told(text):
    return [ord(sign) for sign in str(len(text))]


class Bringing:
    """A name, its rule, and how far its notes or its orders are gone through.

    As long as it is checking, at is a place in the rule's notes; then one in
    the rule's orders. A text on the pile may belong to a rule or an order, so
    it stays as it is; only one that was copied for a join grows, since making
    a new one for each part would cost too much in a long join.
    """

    def __init__(self, name, rule):
        self.name = name
        self.rule = rule
        self.checking = rule.good
        self.at = 0
        self.pile = []
        self.notes = []

    def turn_to_orders(self):
        self.checking = False
        self.at = 0

    def name_wanted(self):
        """The name that the order at hand reads, or None."""
        if self.rule.orders[self.at][0] == "read":
            return tuple(self.pile[-1])
        return None

    def take_read(self, name, rule):
        """Carries out the order at hand, which reads a name that is brought up."""
        self.notes.append((name, rule.time))
        self.pile[-1] = rule.text
        self.at += 1

    def carry_out(self):
        """Carries out the order at hand, which reads no name."""
        order = self.rule.orders[self.at]
        kind = order[0]
        value = order[1]
        self.at += 1
        if kind == "text":
            self.pile.append(value)
        elif kind == "jump":
            self.at = value
        elif kind == "unless_same":
            behind = self.pile.pop()
            if self.pile.pop() != behind:
                self.at = value
        elif kind == "copy":
            self.pile[-1] = list(self.pile[-1])
        elif kind == "join":
            behind = self.pile.pop()
            grow(self.pile[-1], behind)
        elif kind == "size":
            self.pile[-1] = size_told(self.pile[-1])
        elif kind == "first":
            self.pile[-1] = self.pile[-1][:value]
        elif kind == "rest":
            self.pile[-1] = self.pile[-1][value:]
