"""moves: the deeds that put a thing somewhere."""

import unittest

from asking import GREATEST, ask, begin, deeds_of, last, meet, move, moves, pairs, some_calls, tell, tree


class Moves(unittest.TestCase):
    def test_only_those_that_put_it_somewhere(self):
        deeds = [
            move(0, 2, 9), move(0, 2, 2), move(0, 2, 0), move(0, 3, 2),
            move(0, 2, 3), move(0, 2, 2), move(0, 2, 9), move(0, 2, 1)]
        asked = ask(*deeds, moves(0, 2), moves(0, 3))
        self.assertEqual([answer[2] for answer in asked[:8]], [2, 2, 1, 1, 3, 3, 2, 1])
        self.assertEqual(asked[8:], [[2, 2, 7], [1, 3]])

    def test_not_those_of_other_things(self):
        deeds = [move(0, 2, 0), move(0, 3, 2), move(0, 4, 3), move(0, 3, 0), move(0, 2, 3)]
        self.assertEqual(ask(*deeds, moves(0, 2), moves(0, 3), moves(0, 4))[5:], [[2, 0, 4], [2, 1, 3], [1, 2]])

    def test_going_along_is_not_among_them(self):
        self.assertEqual(last(move(0, 2, 0), move(0, 3, 2), move(0, 2, 1), moves(0, 3)), [1, 1])

    def test_the_same_place_again(self):
        self.assertEqual(last(move(0, 2, 0, 5), move(0, 2, 0, 5), moves(0, 2)), [2, 0, 1])

    def test_a_thing_that_no_deed_put_anywhere(self):
        self.assertEqual(ask(moves(0, 2), moves(0, 63)), [[0], [0]])
        self.assertEqual(ask(move(0, 2, 9), move(0, 3, 3), moves(0, 2), moves(0, 3), moves(0, 9))[2:], [[0]] * 3)

    def test_the_root_the_bin_and_what_is_no_thing(self):
        for thing in (0, 1, 64, 65, 2 ** 63, GREATEST):
            self.assertEqual(ask(moves(0, thing)), [[0]])
            self.assertEqual(last(move(0, 2, 0), move(0, 3, 1), move(0, 63, 0), moves(0, thing)), [0])

    def test_thing_63(self):
        self.assertEqual(last(move(0, 63, 0), moves(0, 63)), [1, 0])

    def test_the_earliest_stamp_first(self):
        calls = [begin(2), move(0, 2, 0), move(0, 2, 1), move(0, 2, 0), tell(2, 1), tell(0, 1), tell(1, 1)]
        self.assertEqual(last(*calls, moves(1, 2)), [3, 0, 1, 2])

    def test_the_same_count_the_lesser_desk_first(self):
        for first, second, order in ((0, 1, [0, 1]), (1, 0, [1, 0])):
            calls = [begin(2), move(first, 2, 0), move(second, 2, 0), meet(0, 1)]
            self.assertEqual(ask(*calls, moves(0, 2), moves(1, 2))[4:], [[2] + order] * 2)

    def test_the_count_goes_before_the_desk_and_the_number(self):
        calls = [begin(3), move(0, 2, 0), move(0, 2, 0), move(0, 2, 0), move(2, 2, 0), move(2, 2, 0)]
        calls += [meet(1, 0), meet(1, 2)]
        self.assertEqual(last(*calls, moves(1, 2)), [5, 0, 3, 1, 4, 2])

    def test_each_desk_by_what_it_knows(self):
        asked = ask(begin(3), move(0, 2, 0), move(1, 2, 1), move(1, 2, 0), moves(0, 2), moves(1, 2), moves(2, 2))
        self.assertEqual(asked[4:], [[1, 0], [2, 1, 2], [0]])

    def test_100_deeds(self):
        self.assertEqual(last(*[move(0, 2, 0)] * 100, moves(0, 2)), [100, *range(100)])

    def test_no_such_desk(self):
        self.assertEqual(last(begin(8), move(7, 2, 0), moves(7, 2)), [1, 0])
        for desk in (8, 9, GREATEST):
            for thing in (0, 2, 63, 64, GREATEST):
                self.assertEqual(last(begin(8), move(7, 2, 0), moves(desk, thing)), [-2])

    def test_nothing_changes(self):
        asked = ask(move(0, 2, 0, 5), moves(0, 2), moves(1, 2), moves(0, 64), tree(0), deeds_of(0), move(0, 3, 2))
        self.assertEqual(asked[4:], [[1, 2, 1, 5], [1, 0, 1], [1, 2, 1]])

    def test_as_deeds_tells(self):
        for seed in range(40):
            calls = some_calls(seed, 4, 40, 40, things=9)
            of_deed = [call[2] for call in calls if call[0] == 2]
            for desk in range(4):
                asked = ask(*calls, deeds_of(desk), *[moves(desk, thing) for thing in range(12)])
                put = [deed for deed, comes in pairs(asked[-13]) if comes == 1]
                for thing in range(12):
                    found = [deed for deed in put if of_deed[deed] == thing]
                    self.assertEqual(asked[thing - 12], [len(found)] + found)


class OnceAnEarlierDeedIsKnown(unittest.TestCase):
    def test_more_of_them(self):
        calls = [begin(2), move(0, 2, 0), move(1, 3, 2), move(1, 3, 0), move(1, 3, 2)]
        asked = ask(*calls, moves(1, 3), tell(0, 1), moves(1, 3))
        self.assertEqual(asked[5:], [[1, 2], [4, 3], [3, 1, 2, 3]])

    def test_fewer_of_them(self):
        calls = [begin(2), move(1, 2, 0), move(1, 3, 0), meet(0, 1), move(0, 3, 2), move(1, 2, 3)]
        asked = ask(*calls, moves(1, 2), moves(1, 3), tell(2, 1), moves(1, 2), moves(1, 3))
        self.assertEqual(asked[6:], [[2, 0, 3], [1, 1], [4, 1], [1, 0], [2, 1, 2]])
