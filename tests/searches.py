"""Rules, lots and goals for the tests of trees and papers, of several kinds."""

from functools import lru_cache

from selfsort.rules import named_rule
from tests import words
from tests.samples import Draw

NAMES = ("front", "ahead", "still", "half", "second")


def drawn_search(draw, items):
    """A drawn tuple (rules, lot, goal) of so many items."""
    rules = draw.rules(items, 1 + draw.below(3))
    kind = draw.below(4)
    if kind == 0:
        rules = rules[1:] + (named_rule(items, draw.one(NAMES)),)
    if kind == 1:
        rules = rules[:1] * 2
    if kind == 2:
        rules = (named_rule(items, "still"),) + rules[:1]
    cases = words.every_case(rules)
    if draw.below(3) == 0:
        order = draw.one(cases)[1][0]
        cases = [case for case in cases if case[1][0] == order]
    lot = tuple(sorted(draw.some(cases, draw.one([1, 2, 3, 4, 8]))))
    return rules, lot, draw.goal(items)


@lru_cache(maxsize=None)
def drawn_searches():
    """Drawn tuples (rules, lot, goal) with at most 600 lots that come, of two to four items."""
    draw = Draw(12)
    found = [drawn_search(draw, 2 + number % 3) for number in range(300)]
    return [search for search in found if words.coming(search[0], search[1], 150) is not None]


@lru_cache(maxsize=None)
def with_tree():
    """Those of the drawn ones for which there is a tree."""
    return [search for search in drawn_searches() if search[1] not in words.lots_without_tree(*search)]


@lru_cache(maxsize=None)
def without_tree():
    """Those of the drawn ones for which there is none."""
    return [search for search in drawn_searches() if search[1] in words.lots_without_tree(*search)]


@lru_cache(maxsize=None)
def drawn_blind():
    """Those of the drawn ones of which at most 150 lots come blind."""
    return [search for search in drawn_searches() if words.coming_blind(search[0], search[1], 150) is not None]


@lru_cache(maxsize=None)
def with_row():
    """Those of them for which there is a blind row."""
    return [search for search in drawn_blind() if words.least_blind_row(*search) is not None]


@lru_cache(maxsize=None)
def without_row():
    """Those of them for which there is none."""
    return [search for search in drawn_blind() if words.least_blind_row(*search) is None]
