"""What cases and lots turn to behind asks, and all lots that come of a lot, by asks that are seen and by blind ones.

All that is passed here is known to be of the right kinds.
"""

from selfsort.standings import asked_once
from selfsort.wrongs import TooMany

MOST_LOTS = 600


def asked_case(rules, case, item):
    """The tuple (depth, case behind the ask) for the item."""
    number, standing = case
    depth, turned = asked_once(rules[number], standing, item)
    return (depth, (number, turned))


class Turns:
    """What the cases and lots of rules turn to; each is worked out once, as many lots share cases."""

    def __init__(self, rules):
        self._rules = rules
        self._turned = {}
        self._branches = {}
        self._blind = {}

    def turned(self, case, item):
        """The tuple (depth, case behind the ask) for the item."""
        if (case, item) not in self._turned:
            self._turned[case, item] = asked_case(self._rules, case, item)
        return self._turned[case, item]

    def branches(self, lot, item):
        """The list of the tuples (answer, lot behind the item and this answer), ascending by the answers."""
        if (lot, item) not in self._branches:
            self._branches[lot, item] = self._parts(lot, item)
        return self._branches[lot, item]

    def _parts(self, lot, item):
        parts = {}
        for case in lot:
            depth, turned = self.turned(case, item)
            parts.setdefault(depth, []).append(turned)
        return [(depth, tuple(sorted(set(parts[depth])))) for depth in sorted(parts)]

    def blind(self, lot, item):
        """The lot behind the item asked blind."""
        if (lot, item) not in self._blind:
            self._blind[lot, item] = tuple(sorted(set([self.turned(case, item)[1] for case in lot])))
        return self._blind[lot, item]


class Web:
    """The lots that come of a lot, numbered as they are found, the lot itself by 0.

    The list lots has them by their numbers. The list steps has, by these numbers and by items, the list of
    the tuples (answer, number of the lot behind the item and this answer), ascending by the answers.
    """

    def __init__(self, rules, lot):
        self.lots = [lot]
        self.steps = []
        self._numbers = {lot: 0}
        turns = Turns(rules)
        while len(self.steps) < len(self.lots):
            one = self.lots[len(self.steps)]
            self.steps.append([self._numbered(turns.branches(one, item)) for item in range(rules[0][0])])

    def _numbered(self, branches):
        return [(answer, self._number_of(one)) for answer, one in branches]

    def _number_of(self, lot):
        if lot not in self._numbers:
            if len(self.lots) == MOST_LOTS:
                raise TooMany(MOST_LOTS)
            self._numbers[lot] = len(self.lots)
            self.lots.append(lot)
        return self._numbers[lot]


def blind_rows(rules, lot):
    """A dict from each lot that comes of the lot blind to the least of the fewest asks behind which it comes.

    Its keys come in the order of these asks: fewer ones first, and of as many the least one first.
    """
    turns = Turns(rules)
    rows = {lot: ()}
    lots = [lot]
    at = 0
    while at < len(lots):
        for item in range(rules[0][0]):
            part = turns.blind(lots[at], item)
            if part not in rows:
                if len(lots) == MOST_LOTS:
                    raise TooMany(MOST_LOTS)
                rows[part] = rows[lots[at]] + (item,)
                lots.append(part)
        at += 1
    return rows
