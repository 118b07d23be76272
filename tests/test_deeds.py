"""deeds: what a desk knows, by stamps, and what comes of each."""

import unittest

from asking import GREATEST, ask, begin, deeds_of, last, meet, move, tell, tree


class TheOrder(unittest.TestCase):
    def test_a_desk_that_knows_none(self):
        self.assertEqual(ask(deeds_of(0)), [[0]])
        self.assertEqual(ask(begin(2), move(0, 2, 0), deeds_of(0), deeds_of(1))[2:], [[1, 0, 1], [0]])

    def test_one_desk(self):
        self.assertEqual(last(*[move(0, 2, 0)] * 12, deeds_of(0)), [12, *[x for n in range(12) for x in (n, 1)]])

    def test_the_same_count_at_two_desks(self):
        for first, second, order in ((0, 1, [0, 1]), (1, 0, [1, 0])):
            calls = [begin(2), move(first, 2, 0), move(second, 3, 0), meet(0, 1)]
            expected = [2, order[0], 1, order[1], 1]
            self.assertEqual(ask(*calls, deeds_of(0), deeds_of(1))[4:], [expected, expected])

    def test_the_same_count_at_all_desks(self):
        deeds = [move(desk, 2, 0) for desk in range(7, -1, -1)]
        calls = [begin(8), *deeds, *[tell(deed, 3) for deed in (5, 0, 7, 2, 4, 1, 6, 3)]]
        self.assertEqual(last(*calls, deeds_of(3)), [8, 7, 1, 6, 1, 5, 1, 4, 1, 3, 1, 2, 1, 1, 1, 0, 1])

    def test_the_count_goes_before_the_desk_and_the_number(self):
        calls = [begin(3), move(0, 2, 0), move(0, 3, 0), move(0, 4, 0), move(2, 5, 0), move(2, 6, 0)]
        calls += [meet(1, 0), meet(1, 2)]
        self.assertEqual(last(*calls, deeds_of(1)), [5, 0, 1, 3, 1, 1, 1, 4, 1, 2, 1])

    def test_deeds_that_were_told_late(self):
        calls = [begin(2), move(0, 2, 0), move(0, 3, 0), move(0, 4, 0), move(0, 5, 0)]
        for deed in (3, 0, 2, 1):
            calls += [tell(deed, 1), deeds_of(1)]
        asked = ask(*calls)
        self.assertEqual(asked[6::2], [
            [1, 3, 1], [2, 0, 1, 3, 1], [3, 0, 1, 2, 1, 3, 1], [4, 0, 1, 1, 1, 2, 1, 3, 1]])

    def test_counts_of_two_figures(self):
        calls = [begin(2), *[move(0, 2, 0)] * 12, tell(10, 1), tell(9, 1), tell(1, 1)]
        self.assertEqual(last(*calls, deeds_of(1)), [3, 1, 1, 9, 1, 10, 1])

    def test_doubled_it_is_known_once(self):
        self.assertEqual(last(begin(2), move(0, 2, 0), tell(0, 1), tell(0, 1), meet(0, 1), deeds_of(1)), [1, 0, 1])

    def test_after_a_tell_the_next_deed_is_the_last(self):
        calls = [begin(2), move(0, 2, 0), move(0, 3, 0), tell(1, 1), move(1, 4, 0), tell(0, 1)]
        self.assertEqual(last(*calls, deeds_of(1)), [3, 0, 1, 1, 1, 2, 1])

    def test_100_deeds(self):
        asked = ask(*[move(0, 2, 0)] * 100, move(0, 2, 0), deeds_of(0))
        self.assertEqual(asked[100:], [[-5], [100, *[x for n in range(100) for x in (n, 1)]]])


class WhatComes(unittest.TestCase):
    def test_1_2_and_3(self):
        deeds = [
            move(0, 2, 0), move(0, 3, 9), move(0, 2, 2), move(0, 3, 2),
            move(0, 2, 3), move(0, 4, 4), move(0, 9, 1)]
        asked = ask(*deeds, deeds_of(0))
        self.assertEqual([answer[2] for answer in asked[:-1]], [1, 2, 3, 1, 3, 2, 1])
        self.assertEqual(asked[-1], [7, 0, 1, 1, 2, 2, 3, 3, 1, 4, 3, 5, 2, 6, 1])

    def test_a_later_deed_does_not_change_it(self):
        asked = ask(begin(2), move(0, 3, 2), move(0, 2, 0), deeds_of(0), move(1, 2, 0), tell(2, 0), deeds_of(0))
        self.assertEqual(asked[3], [2, 0, 2, 1, 1])
        self.assertEqual(asked[6], [3, 0, 2, 2, 1, 1, 1])

    def test_each_desk_by_what_it_knows(self):
        asked = ask(begin(3), move(0, 2, 0), move(0, 3, 2), tell(1, 1), deeds_of(0), deeds_of(1), deeds_of(2))
        self.assertEqual(asked[4:], [[2, 0, 1, 1, 1], [1, 1, 2], [0]])


class OnceAnEarlierDeedIsKnown(unittest.TestCase):
    def check(self, calls, deed, before, after):
        self.assertEqual(ask(*calls, deeds_of(1), tell(deed, 1), deeds_of(1))[-3::2], [before, after])

    def test_2_becomes_1(self):
        calls = [begin(2), move(0, 2, 0), move(1, 3, 2), move(1, 4, 3)]
        self.check(calls, 0, [2, 1, 2, 2, 2], [3, 0, 1, 1, 1, 2, 1])

    def test_2_becomes_3(self):
        calls = [begin(2), move(0, 2, 0), meet(0, 1), move(0, 3, 2), move(1, 2, 3)]
        self.check(calls, 1, [2, 0, 1, 2, 2], [3, 0, 1, 1, 1, 2, 3])

    def test_3_becomes_1(self):
        calls = [begin(2), move(1, 2, 0), move(1, 3, 2), meet(0, 1), move(0, 3, 0), move(1, 2, 3)]
        self.check(calls, 2, [3, 0, 1, 1, 1, 3, 3], [4, 0, 1, 1, 1, 2, 1, 3, 1])

    def test_1_becomes_3(self):
        calls = [begin(2), move(1, 2, 0), move(1, 3, 0), meet(0, 1), move(0, 3, 2), move(1, 2, 3)]
        self.check(calls, 2, [3, 0, 1, 1, 1, 3, 1], [4, 0, 1, 1, 1, 2, 1, 3, 3])


class Refusals(unittest.TestCase):
    def test_no_such_desk(self):
        self.assertEqual(last(begin(8), deeds_of(7)), [0])
        for desk in (8, 9, GREATEST):
            self.assertEqual(last(begin(8), move(7, 2, 0), deeds_of(desk)), [-2])

    def test_nothing_changes(self):
        asked = ask(move(0, 2, 0, 5), deeds_of(0), deeds_of(1), deeds_of(0), tree(0), move(0, 3, 2))
        self.assertEqual(asked[1:], [[1, 0, 1], [-2], [1, 0, 1], [1, 2, 1, 5], [1, 2, 1]])
