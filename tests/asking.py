"""Asks the program, call by call, and takes its one list of answers apart."""

import random

from manyhandsheet.house import answers

GREATEST = 2 ** 64 - 1


def begin(desks):
    return [1, desks]


def move(desk, thing, under, label=0):
    return [2, desk, thing, under, label]


def tell(deed, desk):
    return [3, deed, desk]


def meet(desk, other):
    return [4, desk, other]


def tree(desk):
    return [5, desk]


def bin_of(desk):
    return [6, desk]


def joined(calls):
    return [number for call in calls for number in call]


def ask(*calls):
    """One answer for each call; the counts before the answers have to come out even."""
    answered = answers(joined(calls))
    taken = []
    at = 0
    while at < len(answered):
        behind = at + 1 + answered[at]
        if answered[at] < 1 or behind > len(answered):
            raise AssertionError(f"wrong count at {at}: {answered}")
        taken.append(answered[at + 1:behind])
        at = behind
    if len(taken) != len(calls):
        raise AssertionError(f"{len(calls)} calls, {len(taken)} answers")
    return taken


def last(*calls):
    return ask(*calls)[-1]


def rows(answer):
    """The (thing, how deep, label) rows of an answer to tree or bin."""
    found = [tuple(answer[at:at + 3]) for at in range(1, len(answer), 3)]
    if len(answer) != 1 + 3 * answer[0] or len(found) != answer[0]:
        raise AssertionError(f"wrong count of things: {answer}")
    return found


def some_calls(seed, desks, deeds, others, things=12):
    """A begin, so many moves, and so many other calls among them: always the same for the same seed."""
    chance = random.Random(seed)
    kinds = ["move"] * deeds + ["other"] * others
    chance.shuffle(kinds)
    calls = [begin(desks)]
    done = 0
    for kind in kinds:
        desk = chance.randrange(desks)
        if kind == "move":
            calls.append(move(desk, chance.randrange(2, things), chance.randrange(things), chance.randrange(1000)))
            done += 1
        else:
            calls.append(chance.choice([
                tell(chance.randrange(max(done, 1)), desk),
                tell(chance.randrange(max(done, 1)), desk),
                meet(desk, chance.randrange(desks)),
                tree(desk),
                bin_of(desk),
            ]))
    return calls
