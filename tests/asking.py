"""Asks the program, call by call, and takes its one list of answers apart."""

import random

from manyhandsheet.house import answers

GREATEST = 2 ** 64 - 1


def begin(desks):
    return [1, desks]


def move(desk, thing, under, label=0):
    return [2, desk, thing, under, label]


def tell(deed, desk):
    return [3, deed, desk]


def meet(desk, other):
    return [4, desk, other]


def tree(desk):
    return [5, desk]


def bin_of(desk):
    return [6, desk]


def line(desk, thing):
    return [7, desk, thing]


def deeds_of(desk):
    return [8, desk]


def same(desk, other):
    return [9, desk, other]


def would(desk, thing, under):
    return [10, desk, thing, under]


def moves(desk, thing):
    return [11, desk, thing]


def joined(calls):
    return [number for call in calls for number in call]


def ask(*calls):
    """One answer for each call; the counts before the answers have to come out even."""
    answered = answers(joined(calls))
    taken = []
    at = 0
    while at < len(answered):
        behind = at + 1 + answered[at]
        if answered[at] < 1 or behind > len(answered):
            raise AssertionError(f"wrong count at {at}: {answered}")
        taken.append(answered[at + 1:behind])
        at = behind
    if len(taken) != len(calls):
        raise AssertionError(f"{len(calls)} calls, {len(taken)} answers")
    return taken


def last(*calls):
    return ask(*calls)[-1]


def rows(answer):
    """The (thing, how deep, label) rows of an answer to tree or bin."""
    found = [tuple(answer[at:at + 3]) for at in range(1, len(answer), 3)]
    if len(answer) != 1 + 3 * answer[0] or len(found) != answer[0]:
        raise AssertionError(f"wrong count of things: {answer}")
    return found


def pairs(answer):
    """The (deed, what comes of it) pairs of an answer to deeds."""
    found = [tuple(answer[at:at + 2]) for at in range(1, len(answer), 2)]
    if len(answer) != 1 + 2 * answer[0] or len(found) != answer[0]:
        raise AssertionError(f"wrong count of deeds: {answer}")
    return found


def some_calls(seed, desks, deeds, others, things=12):
    """A begin, so many moves, and so many other calls among them: always the same for the same seed."""
    chance = random.Random(seed)
    kinds = ["move"] * deeds + ["other"] * others
    chance.shuffle(kinds)
    calls = [begin(desks)]
    done = 0
    for kind in kinds:
        desk = chance.randrange(desks)
        if kind == "move":
            calls.append(move(desk, chance.randrange(2, things), chance.randrange(things), chance.randrange(1000)))
            done += 1
        else:
            thing = chance.randrange(things)
            calls.append(chance.choice([
                tell(chance.randrange(max(done, 1)), desk),
                tell(chance.randrange(max(done, 1)), desk),
                tell(chance.randrange(max(done, 1)), desk),
                meet(desk, chance.randrange(desks)),
                tree(desk),
                bin_of(desk),
                line(desk, thing),
                deeds_of(desk),
                same(desk, chance.randrange(desks)),
                would(desk, max(thing, 2), chance.randrange(things)),
                moves(desk, thing),
            ]))
    return calls


def with_wrong_numbers(seed, calls):
    """The same calls, some with one number that is at an edge or beyond it, and some begins among them."""
    chance = random.Random(seed)
    edges = [0, 1, 2, 7, 8, 9, 62, 63, 64, 99, 100, 10 ** 9, 10 ** 9 + 1, 2 ** 63, GREATEST]
    changed = [calls[0]]
    for call in calls[1:]:
        again = list(call)
        if chance.randrange(6) == 0:
            again[chance.randrange(1, len(again))] = chance.choice(edges)
        elif chance.randrange(60) == 0:
            again = begin(chance.choice([0, 1, 2, 8, 9]))
        changed.append(again)
    return changed
