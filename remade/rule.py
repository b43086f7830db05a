"""A rule, and what is known of it."""


class Rule:
    """A formula; and the text, its time and what was read, as last worked out.

    What was read is a list of pairs: a name, and the time that it had then.
    """

    def __init__(self, formula, orders):
        self.formula = formula
        self.orders = orders
        self.text = None
        self.time = 0
        self.notes = []
        self.good = False

    def change(self, formula, orders):
        """Another formula; the text stays known, to tell whether it becomes other."""
        self.formula = formula
        self.orders = orders
        self.good = False
