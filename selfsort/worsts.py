"""What trees of asks count at worst, at least, for all the lots of a web.

All that is passed here is known to be of the right kinds. The prices are a tuple that tells what an ask counts,
by the depth that it tells: heights are counted in asks, costs in places that are looked at.
"""

from selfsort.goals import meets

ASKS = (1, 1, 1, 1)
COSTS = (1, 2, 3, 4)


def worst_by(worsts, branches, prices):
    """The least that a tree counts at worst that begins with the item of these branches, or None."""
    if any([worsts[number] is None for _, number in branches]):
        return None
    return max([prices[answer] + worsts[number] for answer, number in branches])


def least_by(worsts, steps, prices):
    """The least that a tree counts at worst that begins with any item of the steps, or None."""
    found = [worst_by(worsts, branches, prices) for branches in steps]
    return min([worst for worst in found if worst is not None], default=None)


def least_worsts(web, goal, prices):
    """The list of the least that trees count at worst, or None where there is no tree, by the numbers of the lots."""
    worsts = [0 if meets(lot, goal) else None for lot in web.lots]
    before = []
    # In each round the trees may be one ask higher; once this changes nothing, it never does.
    while worsts != before:
        before = worsts
        worsts = [own if own == 0 else least_by(before, steps, prices) for own, steps in zip(before, web.steps)]
    return worsts


def first_item(worsts, steps, worst, prices):
    """The least item with which a tree can begin that counts so much at worst."""
    return [worst_by(worsts, branches, prices) for branches in steps].index(worst)


def trees_of(web, worsts, prices):
    """A dict from the number of each lot that has a tree to one that counts the least at worst."""
    trees = {}
    numbers = [number for number, worst in enumerate(worsts) if worst is not None]
    for number in sorted(numbers, key=lambda one: worsts[one]):
        if worsts[number] == 0:
            trees[number] = ()
        else:
            item = first_item(worsts, web.steps[number], worsts[number], prices)
            branches = web.steps[number][item]
            trees[number] = (item, tuple([(answer, trees[part]) for answer, part in branches]))
    return trees


def hardest(web, worsts, branches, prices):
    """The branch (answer, number of the lot) behind which most is counted at worst, or there is no tree."""
    # Of equally hard ones the smallest lot, so that a paper of them is soon judged.
    return max(branches, key=lambda branch: (
        worsts[branch[1]] is None, prices[branch[0]] + (worsts[branch[1]] or 0), -len(web.lots[branch[1]])))


def hardest_branches(web, worsts, prices):
    """For each lot by its number, and for each item, the hardest branch."""
    return [[hardest(web, worsts, branches, prices) for branches in steps] for steps in web.steps]
