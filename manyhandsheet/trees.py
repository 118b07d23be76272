"""The tree of some deeds.

A tree is a dict: for each thing that was put somewhere, a pair of what it is under and its label.
The root and the bin are always there and never moved, so the dict does not hold them.
"""

ROOT = 0
BIN = 1
LAST_THING = 63

PUT = 1
NOT_THERE = 2
WITHIN_ITSELF = 3


def is_there(tree, thing):
    return thing == ROOT or thing == BIN or thing in tree


def all_above(tree, thing):
    found = [thing]
    step = thing
    while step in tree:
        step = tree[step][0]
        found.append(step)
    return found


def what_comes(tree, thing, under):
    if not is_there(tree, under):
        return NOT_THERE
    # Above a thing is the thing itself too, so this one question finds both kinds of circle.
    if thing in all_above(tree, under):
        return WITHIN_ITSELF
    return PUT


def do_deed(tree, deed):
    comes = what_comes(tree, deed.thing, deed.under)
    if comes == PUT:
        tree[deed.thing] = (deed.under, deed.label)
    return comes


# The deeds have to come with the earliest stamp first, here and in what_comes_of_each: the tree, and what comes of
# each deed, are the same at all desks only in that order.
def tree_of(deeds):
    tree = {}
    for deed in deeds:
        do_deed(tree, deed)
    return tree


def what_comes_of_each(deeds):
    tree = {}
    each = []
    for deed in deeds:
        each.append(do_deed(tree, deed))
    return each


# The greatest number comes first, because all_within takes what waits from the end.
def right_under(tree, top):
    return [thing for thing in sorted(tree, reverse=True) if tree[thing][0] == top]


def all_within(tree, top):
    rows = []
    waiting = [(thing, 1) for thing in right_under(tree, top)]
    while len(waiting) > 0:
        step = waiting.pop()
        thing = step[0]
        deep = step[1]
        rows.append((thing, deep, tree[thing][1]))
        waiting.extend([(inner, deep + 1) for inner in right_under(tree, thing)])
    return rows
