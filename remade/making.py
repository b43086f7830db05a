"""A making: a name is brought up, and whatever must be for its sake."""

from remade.bringing import Bringing
from remade.refusals import NoRule, Ring


class Making:
    """The rules, the names that are up or on their way, and what was worked out.

    The names on their way wait for one another in a row, the last one first;
    nothing of a rule is changed before its formula is worked out to its end,
    so that a refusal may break off at any moment.
    """

    def __init__(self, rules, latest):
        self.rules = rules
        self.latest = latest
        self.worked = []
        self.up = {}
        self.on_the_way = {}
        self.waiting = []

    def make(self, name):
        """The text of a name; or NoRule, Ring or TooLong is raised."""
        self.ask(name)
        while len(self.waiting) > 0:
            bringing = self.waiting[-1]
            if bringing.checking:
                self.check(bringing)
            else:
                self.work(bringing)
        return self.rules[name].text

    def ask(self, name):
        """Whether the name is up; if not, it is set on its way ahead of the others."""
        if name in self.up:
            return True
        if name not in self.rules:
            raise NoRule()
        if name in self.on_the_way:
            raise Ring()
        self.on_the_way[name] = True
        self.waiting.append(Bringing(name, self.rules[name]))
        return False

    def check(self, bringing):
        """Goes through what was read last, until a name is to be waited for."""
        notes = bringing.rule.notes
        while bringing.at < len(notes):
            note = notes[bringing.at]
            if not self.ask(note[0]):
                return
            if self.rules[note[0]].time != note[1]:
                bringing.turn_to_orders()
                return
            bringing.at += 1
        self.arrive(bringing)

    def work(self, bringing):
        """Goes through the orders, until a name is to be waited for."""
        while bringing.at < len(bringing.rule.orders):
            name = bringing.name_wanted()
            if name is None:
                bringing.carry_out()
            elif self.ask(name):
                bringing.take_read(name, self.rules[name])
            else:
                return
        self.settle(bringing)
        self.arrive(bringing)

    def settle(self, bringing):
        """Keeps what a formula came to."""
        rule = bringing.rule
        text = bringing.pile[-1]
        if rule.text is None or rule.text != text:
            self.latest += 1
            rule.time = self.latest
        rule.text = text
        rule.notes = bringing.notes
        rule.good = True
        self.worked.append(bringing.name)

    def arrive(self, bringing):
        self.up[bringing.name] = True
        self.waiting.pop()
