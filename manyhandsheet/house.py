"""The house: its desks, the deeds that were done, and the calls about them."""

from manyhandsheet.trees import BIN, LAST_THING, ROOT, all_within, tree_of, what_comes

MOST_DESKS = 8
MOST_DEEDS = 100
GREATEST_LABEL = 1000000000

OUT_OF_RANGE = -1
NO_SUCH = -2
NO_MORE_DEEDS = -5

CALL_BEGIN = 1
CALL_MOVE = 2
CALL_TELL = 3
CALL_MEET = 4
CALL_TREE = 5

# How many numbers follow a call's own number.
NUMBERS_OF_CALL = {1: 1, 2: 4, 3: 2, 4: 2, 5: 1, 6: 1}


# A stamp is a pair of count and desk, because pairs are compared as stamps are.
class Deed:
    def __init__(self, stamp, thing, under, label):
        self.stamp = stamp
        self.thing = thing
        self.under = under
        self.label = label


# Each desk's numbers of deeds are kept with the earliest stamp first, so that its tree can be made as they stand.
class House:
    def __init__(self):
        self.done = []
        self.known = [[]]

    def begin(self, desks):
        if desks < 1 or desks > MOST_DESKS:
            return [OUT_OF_RANGE]
        self.done = []
        self.known = [[] for desk in range(desks)]
        return [0]

    def move(self, desk, thing, under, label):
        if not self.has_desk(desk):
            return [NO_SUCH]
        if not may_move(thing) or under > LAST_THING or label > GREATEST_LABEL:
            return [OUT_OF_RANGE]
        if len(self.done) >= MOST_DEEDS:
            return [NO_MORE_DEEDS]
        number = len(self.done)
        count = self.greatest_count(desk) + 1
        # No deed that the desk knows has a later stamp, so this one is done last.
        comes = what_comes(self.tree_at(desk), thing, under)
        self.done.append(Deed((count, desk), thing, under, label))
        self.known[desk] = self.known[desk] + [number]
        return [number, count, comes]

    def tell(self, number, desk):
        if number >= len(self.done) or not self.has_desk(desk):
            return [NO_SUCH]
        known = self.known[desk]
        if number in known:
            return [len(known), 0]
        stamp = self.done[number].stamp
        later = [other for other in known if self.done[other].stamp > stamp]
        self.known[desk] = self.by_stamps(known + [number])
        return [len(known) + 1, len(later)]

    def meet(self, desk, other):
        if not self.has_desk(desk) or not self.has_desk(other):
            return [NO_SUCH]
        first = self.known[desk]
        second = self.known[other]
        new_to_first = [number for number in second if number not in first]
        new_to_second = [number for number in first if number not in second]
        self.known[desk] = self.by_stamps(first + new_to_first)
        self.known[other] = self.by_stamps(second + new_to_second)
        return [len(first) + len(new_to_first), len(new_to_first), len(new_to_second)]

    def show(self, desk, top):
        if not self.has_desk(desk):
            return [NO_SUCH]
        rows = all_within(self.tree_at(desk), top)
        answer = [len(rows)]
        for row in rows:
            answer.extend(row)
        return answer

    def has_desk(self, desk):
        return desk < len(self.known)

    def greatest_count(self, desk):
        return max([self.done[number].stamp[0] for number in self.known[desk]], default=0)

    def tree_at(self, desk):
        return tree_of([self.done[number] for number in self.known[desk]])

    def by_stamps(self, numbers):
        return sorted(numbers, key=lambda number: self.done[number].stamp)


def may_move(thing):
    return thing != ROOT and thing != BIN and thing <= LAST_THING


def answer_call(house, call, numbers):
    if call == CALL_BEGIN:
        return house.begin(numbers[0])
    if call == CALL_MOVE:
        return house.move(numbers[0], numbers[1], numbers[2], numbers[3])
    if call == CALL_TELL:
        return house.tell(numbers[0], numbers[1])
    if call == CALL_MEET:
        return house.meet(numbers[0], numbers[1])
    if call == CALL_TREE:
        return house.show(numbers[0], ROOT)
    # The one call that is left is bin.
    return house.show(numbers[0], BIN)


def answers(calls):
    house = House()
    answered = []
    at = 0
    while at < len(calls):
        call = calls[at]
        behind = at + 1 + NUMBERS_OF_CALL[call]
        answer = answer_call(house, call, calls[at + 1:behind])
        answered.append(len(answer))
        answered.extend(answer)
        at = behind
    return answered
