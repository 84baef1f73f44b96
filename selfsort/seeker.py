"""A seeker: what is known of a list by what was asked and answered so far."""

from selfsort.kinds import is_between
from selfsort.lots import lot_behind, require_lot
from selfsort.orders import require_item
from selfsort.trees import first_of_best, least_asks
from selfsort.webs import Turns
from selfsort.wrongs import NoMark, TooMany

MOST_MARKS = 6


class Seeker:
    """The lot of a list now, the log that led to it, and marks to go back to."""

    def __init__(self, rules, lot):
        require_lot(rules, lot)
        self._rules = rules
        self._lot = lot
        self._log = ()
        self._marks = []

    def told(self, item, answer):
        """Tell the seeker that the item was asked for, and what the answer was."""
        self._lot = self.would(item, answer)
        self._log = self._log + ((item, answer),)

    def lot(self):
        """The lot now."""
        return self._lot

    def log(self):
        """The tuple of the tuples (item, answer) of all that was told."""
        return self._log

    def would(self, item, answer):
        """The lot that would be behind the item and the answer."""
        require_item(self._rules[0][0], item)
        return lot_behind(Turns(self._rules), self._lot, item, answer)

    def left(self, goal):
        """The least height of a tree of the lot now, or None if there is no tree."""
        return least_asks(self._rules, self._lot, goal)

    def next_item(self, goal):
        """The least item with which a tree of the least height can begin, or None if nothing is left or no tree is."""
        return first_of_best(self._rules, self._lot, goal)

    def mark(self):
        """Make a mark and return its number."""
        if len(self._marks) == MOST_MARKS:
            raise TooMany(MOST_MARKS)
        self._marks.append((self._lot, self._log))
        return len(self._marks) - 1

    def back(self, number):
        """Go back to the mark of this number, and remove all later ones."""
        if not is_between(number, 0, len(self._marks) - 1):
            raise NoMark(number)
        self._lot, self._log = self._marks[number]
        self._marks = self._marks[:number + 1]

    def marks(self):
        """The ascending list of the numbers of the marks."""
        return list(range(len(self._marks)))
