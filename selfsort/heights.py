"""The least heights of trees of asks, for all the lots of a web.

All that is passed here is known to be of the right kinds.
"""

from selfsort.goals import meets


def height_by(heights, branches):
    """The least height of a tree that begins with an item of these branches, or None."""
    found = [heights[number] for _, number in branches]
    if any([height is None for height in found]):
        return None
    return 1 + max(found)


def can_begin(heights, steps):
    """True if, for some item of the steps, there are trees of all lots behind it."""
    return any([height_by(heights, branches) is not None for branches in steps])


def least_heights(web, goal):
    """The list of the least heights of trees, or None where there is none, by the numbers of the lots."""
    heights = [0 if meets(lot, goal) else None for lot in web.lots]
    height = 0
    found = [number for number, own in enumerate(heights) if own == 0]
    # In each round just the heights below are known, so a lot for which they do has the round's own.
    while found:
        height += 1
        left = [number for number, own in enumerate(heights) if own is None]
        found = [number for number in left if can_begin(heights, web.steps[number])]
        for number in found:
            heights[number] = height
    return heights
