"""The tree of some deeds.

A tree is a dict: for each thing that was put somewhere, a pair of what it is under and its label.
The root and the bin are always there and never moved, so the dict does not hold them.
"""

ROOT = 0
BIN = 1
LAST_THING = 63

PUT = 1
NOT_THERE = 2
WITHIN_ITSELF = 3


def is_there(tree, thing):
    return thing == ROOT or thing == BIN or thing in tree


def is_above(tree, upper, thing):
    """Whether upper is the thing itself, or the thing is within upper."""
    step = thing
    while step != upper and step in tree:
        step = tree[step][0]
    return step == upper


def what_comes(tree, thing, under):
    """What comes of a deed that is done when the tree is like this."""
    if not is_there(tree, under):
        return NOT_THERE
    if is_above(tree, thing, under):
        return WITHIN_ITSELF
    return PUT


def tree_of(deeds):
    """The tree of these deeds, which come with the earliest stamp first."""
    tree = {}
    for deed in deeds:
        if what_comes(tree, deed.thing, deed.under) == PUT:
            tree[deed.thing] = (deed.under, deed.label)
    return tree


def right_under(tree, top):
    """The things right under top, the greatest number first."""
    return [thing for thing in sorted(tree, reverse=True) if tree[thing][0] == top]


def all_within(tree, top):
    """A row (thing, how deep, label) for each thing within top, each followed by all within it."""
    rows = []
    # What waits is taken from the end, so the greatest number has to wait longest.
    waiting = [(thing, 1) for thing in right_under(tree, top)]
    while len(waiting) > 0:
        step = waiting.pop()
        thing = step[0]
        deep = step[1]
        rows.append((thing, deep, tree[thing][1]))
        waiting.extend([(inner, deep + 1) for inner in right_under(tree, thing)])
    return rows
