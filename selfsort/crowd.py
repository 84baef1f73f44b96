"""Several seekers of one list, each of which hears its own answers only."""

from selfsort.kinds import is_between
from selfsort.lots import MOST_CASES, lot_behind, require_lot
from selfsort.orders import require_item
from selfsort.webs import Turns
from selfsort.wrongs import NoNumber, NoSeeker, TooMany

LEAST_SEEKERS = 2
MOST_SEEKERS = 4


def lot_behind_any(turns, lot, items):
    """The lot behind an ask for any of so many items; raises TooMany if it would have too many cases."""
    cases = sorted({turns.turned(case, item)[1] for case in lot for item in range(items)})
    if len(cases) > MOST_CASES:
        raise TooMany(MOST_CASES)
    return tuple(cases)


class Crowd:
    """The lots of several seekers of one list."""

    def __init__(self, rules, lot, seekers):
        require_lot(rules, lot)
        if not is_between(seekers, LEAST_SEEKERS, MOST_SEEKERS):
            raise NoNumber("a crowd has 2, 3 or 4 seekers")
        self._rules = rules
        self._lots = [lot] * seekers

    def _require_seeker(self, seeker):
        if not is_between(seeker, 0, len(self._lots) - 1):
            raise NoSeeker("a seeker is an integer from 0 to one less than the number of seekers")

    def told(self, seeker, item, answer):
        """Tell the crowd that this seeker asked for the item and heard the answer."""
        self._require_seeker(seeker)
        items = self._rules[0][0]
        require_item(items, item)
        turns = Turns(self._rules)
        own = lot_behind(turns, self._lots[seeker], item, answer)
        # The lots are exchanged only when all are known, so that an error changes nothing for anyone.
        self._lots = [
            own if number == seeker else lot_behind_any(turns, lot, items) for number, lot in enumerate(self._lots)
        ]

    def called(self, item):
        """Tell the crowd that the item was called out."""
        require_item(self._rules[0][0], item)
        turns = Turns(self._rules)
        self._lots = [turns.blind(lot, item) for lot in self._lots]

    def lot(self, seeker):
        """This seeker's lot now."""
        self._require_seeker(seeker)
        return self._lots[seeker]

    def shared(self):
        """The ascending list of the cases that are in the lots of all seekers."""
        return [case for case in self._lots[0] if all([case in lot for lot in self._lots])]
