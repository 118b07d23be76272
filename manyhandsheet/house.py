"""The house: its desks, the deeds that were done, and the calls about them."""

from manyhandsheet.trees import BIN, LAST_THING, PUT, ROOT
from manyhandsheet.trees import all_above, all_within, is_there, tree_of, what_comes, what_comes_of_each

MOST_DESKS = 8
MOST_DEEDS = 100
GREATEST_LABEL = 1000000000

OUT_OF_RANGE = -1
NO_SUCH = -2
NO_SUCH_THING = -3
NO_MORE_DEEDS = -5

CALL_BEGIN = 1
CALL_MOVE = 2
CALL_TELL = 3
CALL_MEET = 4
CALL_TREE = 5
CALL_BIN = 6
CALL_LINE = 7
CALL_DEEDS = 8
CALL_SAME = 9
CALL_WOULD = 10

# How many numbers follow a call's own number.
NUMBERS_OF_CALL = {1: 1, 2: 4, 3: 2, 4: 2, 5: 1, 6: 1, 7: 2, 8: 1, 9: 2, 10: 3, 11: 2}


# A stamp is a pair of count and desk, because pairs are compared as stamps are.
class Deed:
    def __init__(self, stamp, thing, under, label):
        self.stamp = stamp
        self.thing = thing
        self.under = under
        self.label = label


# Each desk's numbers of deeds are kept with the earliest stamp first, so that its tree can be made as they stand.
class House:
    def __init__(self):
        self.done = []
        self.known = [[]]

    def begin(self, desks):
        if desks < 1 or desks > MOST_DESKS:
            return [OUT_OF_RANGE]
        self.done = []
        self.known = [[] for desk in range(desks)]
        return [0]

    def move(self, desk, thing, under, label):
        if not self.has_desk(desk):
            return [NO_SUCH]
        if not may_put(thing, under) or label > GREATEST_LABEL:
            return [OUT_OF_RANGE]
        if len(self.done) >= MOST_DEEDS:
            return [NO_MORE_DEEDS]
        number = len(self.done)
        count = self.greatest_count(desk) + 1
        comes = self.would_come(desk, thing, under)
        self.done.append(Deed((count, desk), thing, under, label))
        self.known[desk] = self.known[desk] + [number]
        return [number, count, comes]

    def tell(self, number, desk):
        if number >= len(self.done) or not self.has_desk(desk):
            return [NO_SUCH]
        known = self.known[desk]
        if number in known:
            return [len(known), 0]
        stamp = self.done[number].stamp
        later = [other for other in known if self.done[other].stamp > stamp]
        self.known[desk] = self.by_stamps(known + [number])
        return [len(known) + 1, len(later)]

    def meet(self, desk, other):
        if not self.has_desk(desk) or not self.has_desk(other):
            return [NO_SUCH]
        first = self.known[desk]
        second = self.known[other]
        new_to_first = [number for number in second if number not in first]
        new_to_second = [number for number in first if number not in second]
        self.known[desk] = self.by_stamps(first + new_to_first)
        self.known[other] = self.by_stamps(second + new_to_second)
        return [len(first) + len(new_to_first), len(new_to_first), len(new_to_second)]

    def show(self, desk, top):
        if not self.has_desk(desk):
            return [NO_SUCH]
        return counted(all_within(self.tree_at(desk), top))

    def line(self, desk, thing):
        if not self.has_desk(desk):
            return [NO_SUCH]
        tree = self.tree_at(desk)
        if not is_there(tree, thing):
            return [NO_SUCH_THING]
        found = all_above(tree, thing)
        return [len(found)] + found

    def deeds(self, desk):
        if not self.has_desk(desk):
            return [NO_SUCH]
        return counted(self.deeds_and_what_comes(desk))

    def same(self, desk, other):
        if not self.has_desk(desk) or not self.has_desk(other):
            return [NO_SUCH]
        # Both stand by stamps, so the same deeds stand in the same order.
        same_deeds = self.known[desk] == self.known[other]
        same_trees = self.tree_at(desk) == self.tree_at(other)
        return [1 if same_deeds else 0, 1 if same_trees else 0]

    def would(self, desk, thing, under):
        if not self.has_desk(desk):
            return [NO_SUCH]
        if not may_put(thing, under):
            return [OUT_OF_RANGE]
        return [self.would_come(desk, thing, under)]

    def moves(self, desk, thing):
        if not self.has_desk(desk):
            return [NO_SUCH]
        put = [row[0] for row in self.deeds_and_what_comes(desk) if row[1] == PUT]
        found = [number for number in put if self.done[number].thing == thing]
        return [len(found)] + found

    def has_desk(self, desk):
        return desk < len(self.known)

    def greatest_count(self, desk):
        return max([self.done[number].stamp[0] for number in self.known[desk]], default=0)

    def tree_at(self, desk):
        return tree_of([self.done[number] for number in self.known[desk]])

    # No deed that the desk knows has a later stamp than one that it does now, so that one is done last.
    def would_come(self, desk, thing, under):
        return what_comes(self.tree_at(desk), thing, under)

    def deeds_and_what_comes(self, desk):
        known = self.known[desk]
        each = what_comes_of_each([self.done[number] for number in known])
        return list(zip(known, each))

    def by_stamps(self, numbers):
        return sorted(numbers, key=lambda number: self.done[number].stamp)


def may_put(thing, under):
    return thing != ROOT and thing != BIN and thing <= LAST_THING and under <= LAST_THING


def counted(rows):
    answer = [len(rows)]
    for row in rows:
        answer.extend(row)
    return answer


def answer_call(house, call, numbers):
    if call == CALL_BEGIN:
        return house.begin(numbers[0])
    if call == CALL_MOVE:
        return house.move(numbers[0], numbers[1], numbers[2], numbers[3])
    if call == CALL_TELL:
        return house.tell(numbers[0], numbers[1])
    if call == CALL_MEET:
        return house.meet(numbers[0], numbers[1])
    if call == CALL_TREE:
        return house.show(numbers[0], ROOT)
    if call == CALL_BIN:
        return house.show(numbers[0], BIN)
    if call == CALL_LINE:
        return house.line(numbers[0], numbers[1])
    if call == CALL_DEEDS:
        return house.deeds(numbers[0])
    if call == CALL_SAME:
        return house.same(numbers[0], numbers[1])
    if call == CALL_WOULD:
        return house.would(numbers[0], numbers[1], numbers[2])
    # The one call that is left is moves.
    return house.moves(numbers[0], numbers[1])


def answers(calls):
    house = House()
    answered = []
    at = 0
    while at < len(calls):
        call = calls[at]
        behind = at + 1 + NUMBERS_OF_CALL[call]
        answer = answer_call(house, call, calls[at + 1:behind])
        answered.append(len(answer))
        answered.extend(answer)
        at = behind
    return answered
