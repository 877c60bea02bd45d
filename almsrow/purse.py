"""The pence of a house: what is in its chest, what was paid, what is owed."""

from almsrow.shares import shares


class Purse:
    """The chest, and all that came of it.

    rents is what came into the chest in all; debts tells of each week by which something is owed, the
    oldest first, the pence of each name; struck is as it is told of a week; papers tells of each week
    that was reckoned its paper.
    """

    def __init__(self):
        self.chest = 0
        self.rents = 0
        self.debts = {}
        self.struck = []
        self.papers = {}

    def take_rent(self, pence):
        """Puts the pence into the chest."""
        self.chest += pence
        self.rents += pence

    def strike_debts(self, name):
        """Strikes all that is owed to the name."""
        for week, other, pence in self.debt_rows():
            if other == name:
                self.struck.append((name, week, pence))
                self._lower_debt(week, name, pence)

    def reckon(self, week, dues):
        """Pays the dues of the week as far as the chest goes, and then what is owed."""
        told = self._spend([pence for _, pence in dues])
        paid = tuple([(dues[k][0], told[k]) for k in range(len(dues))])
        lacking = {dues[k][0]: dues[k][1] - told[k] for k in range(len(dues)) if told[k] < dues[k][1]}
        if lacking:
            self.debts[week] = lacking
        self.papers[week] = (dues, paid, self._give_back())

    def debt_rows(self):
        """What is owed, rising: week, name, pence."""
        return [(week, name, self.debts[week][name]) for week in self.debts for name in self.debts[week]]

    def _spend(self, some):
        """What the chest pays of each of the dues: all, or what it has by shares."""
        told = tuple(some)
        if self.chest < sum(some):
            told = shares(some, self.chest)
        self.chest -= sum(told)
        return told

    def _give_back(self):
        """Pays what is owed as far as the chest goes, the oldest week first; tells what was paid."""
        back = []
        # Each time a week is paid off, or the chest is empty behind it.
        while self.chest > 0 and self.debts:
            week = min(self.debts)
            names = list(self.debts[week])
            told = self._spend([self.debts[week][name] for name in names])
            for name, pence in zip(names, told):
                if pence > 0:
                    back.append((week, name, pence))
                    self._lower_debt(week, name, pence)
        return tuple(back)

    def _lower_debt(self, week, name, pence):
        self.debts[week][name] -= pence
        if self.debts[week][name] == 0:
            del self.debts[week][name]
        if not self.debts[week]:
            del self.debts[week]
