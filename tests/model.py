"""The document's words once more, written another way: what the answers are compared with.

Here each thing holds a list of what is right under it, and all is worked out anew for each call.
"""

CALLS = "begin move tell meet tree bin line deeds_of same would moves".split()


class Thing:
    def __init__(self, number):
        self.number = number
        self.label = None
        self.inner = []

    def holds(self, other):
        return other is self or any(thing.holds(other) for thing in self.inner)

    def rows(self, deep=1):
        found = []
        for thing in sorted(self.inner, key=lambda thing: thing.number):
            found += [thing.number, deep, thing.label] + thing.rows(deep + 1)
        return found


class Model:
    def __init__(self):
        self.deeds = []
        self.desks = [set()]

    def replay(self, numbers):
        """All things by number, and for each deed what came of it."""
        there = {0: Thing(0), 1: Thing(1)}
        came = {}
        for number in sorted(numbers, key=lambda number: self.deeds[number][:2]):
            thing, under, label = self.deeds[number][2:]
            if under not in there:
                came[number] = 2
            elif thing in there and there[thing].holds(there[under]):
                came[number] = 3
            else:
                came[number] = 1
                moved = there.setdefault(thing, Thing(thing))
                for holder in there.values():
                    holder.inner = [inner for inner in holder.inner if inner is not moved]
                there[under].inner.append(moved)
                moved.label = label
        return there, came

    def answer(self, call):
        return getattr(self, CALLS[call[0] - 1])(*call[1:])

    def begin(self, desks):
        if desks not in range(1, 9):
            return [-1]
        self.deeds = []
        self.desks = [set() for _ in range(desks)]
        return [0]

    def move(self, desk, thing, under, label):
        if desk not in range(len(self.desks)):
            return [-2]
        if thing not in range(2, 64) or under not in range(64) or label not in range(10 ** 9 + 1):
            return [-1]
        if len(self.deeds) == 100:
            return [-5]
        number = len(self.deeds)
        count = 1 + max([0] + [self.deeds[known][0] for known in self.desks[desk]])
        self.deeds.append((count, desk, thing, under, label))
        self.desks[desk].add(number)
        return [number, count, self.replay(self.desks[desk])[1][number]]

    def tell(self, deed, desk):
        if deed not in range(len(self.deeds)) or desk not in range(len(self.desks)):
            return [-2]
        knew = set(self.desks[desk])
        self.desks[desk].add(deed)
        later = 0
        if deed not in knew:
            later = sum(1 for other in knew if self.deeds[other][:2] > self.deeds[deed][:2])
        return [len(self.desks[desk]), later]

    def meet(self, desk, other):
        if desk not in range(len(self.desks)) or other not in range(len(self.desks)):
            return [-2]
        both = self.desks[desk] | self.desks[other]
        learned = [len(both) - len(self.desks[desk]), len(both) - len(self.desks[other])]
        self.desks[desk] = set(both)
        self.desks[other] = set(both)
        return [len(both)] + learned

    def show(self, desk, top):
        if desk not in range(len(self.desks)):
            return [-2]
        found = self.replay(self.desks[desk])[0][top].rows()
        return [len(found) // 3] + found

    def tree(self, desk):
        return self.show(desk, 0)

    def bin(self, desk):
        return self.show(desk, 1)

    def line(self, desk, thing):
        if desk not in range(len(self.desks)):
            return [-2]
        there = self.replay(self.desks[desk])[0]
        if thing not in there:
            return [-3]
        # Whatever holds more is further up.
        above = [upper for upper in there.values() if upper.holds(there[thing])]
        above.sort(key=lambda upper: len(upper.rows()))
        return [len(above)] + [upper.number for upper in above]

    def deeds_of(self, desk):
        if desk not in range(len(self.desks)):
            return [-2]
        answer = [len(self.desks[desk])]
        for number, came in self.replay(self.desks[desk])[1].items():
            answer += [number, came]
        return answer

    def same(self, desk, other):
        if desk not in range(len(self.desks)) or other not in range(len(self.desks)):
            return [-2]
        shown = [(self.tree(which), self.bin(which)) for which in (desk, other)]
        return [int(self.desks[desk] == self.desks[other]), int(shown[0] == shown[1])]

    def would(self, desk, thing, under):
        if desk not in range(len(self.desks)):
            return [-2]
        if thing not in range(2, 64) or under not in range(64):
            return [-1]
        # Done in a copy of this house, without the bound of 100 deeds.
        other = Model()
        count = 1 + max([0] + [self.deeds[known][0] for known in self.desks[desk]])
        other.deeds = self.deeds + [(count, desk, thing, under, 0)]
        number = len(self.deeds)
        return [other.replay(self.desks[desk] | {number})[1][number]]

    def moves(self, desk, thing):
        if desk not in range(len(self.desks)):
            return [-2]
        came = self.replay(self.desks[desk])[1]
        put = [number for number in came if came[number] == 1 and self.deeds[number][2] == thing]
        return [len(put)] + put


def model_answers(calls):
    model = Model()
    return [model.answer(call) for call in calls]
