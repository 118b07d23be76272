"""begin, and the house before any begin."""

import unittest

from asking import (
    GREATEST, ask, begin, bin_of, deeds_of, last, line, meet, move, moves, same, tell, tree, would)

# The ten other calls, at a desk that knows nothing in a house with no deeds; the move comes last.
AT_DESK_0 = [
    tell(0, 0), meet(0, 0), tree(0), bin_of(0), line(0, 0), line(0, 1), line(0, 2), deeds_of(0), same(0, 0),
    would(0, 2, 0), would(0, 2, 3), moves(0, 2), move(0, 2, 0, 9)]
NOTHING_KNOWN = [
    [-2], [0, 0, 0], [0], [0], [1, 0], [1, 1], [-3], [0], [1, 1],
    [1], [2], [0], [0, 1, 1]]
AT_DESK_1 = [
    tell(0, 1), meet(0, 1), meet(1, 0), tree(1), bin_of(1), line(1, 0), deeds_of(1), same(0, 1), same(1, 0),
    would(1, 2, 0), moves(1, 2), move(1, 2, 0, 9)]
AFTERWARDS = [tree(0), bin_of(0), line(0, 2), deeds_of(0), moves(0, 2), would(0, 2, 2), move(0, 2, 1, 8)]
ONE_DEED_KNOWN = [[1, 2, 1, 9], [0], [2, 2, 0], [1, 0, 1], [1, 0], [3], [1, 2, 1]]


class Begin(unittest.TestCase):
    def test_how_many_desks(self):
        for desks in (1, 2, 7, 8):
            self.assertEqual(ask(begin(desks)), [[0]])
        for desks in (0, 9, 10, 64, 2 ** 63, GREATEST):
            self.assertEqual(ask(begin(desks)), [[-1]])

    def test_desks_are_numbered_from_0(self):
        for desks in range(1, 9):
            asked = ask(begin(desks), *[tree(desk) for desk in range(9)])
            self.assertEqual(asked[1:], [[0]] * desks + [[-2]] * (9 - desks))

    def test_begin_again_leaves_no_deed_and_no_knowledge(self):
        asked = ask(
            begin(2), move(0, 2, 0, 5), move(1, 3, 1, 6), meet(0, 1),
            begin(2), tree(0), bin_of(0), tree(1), bin_of(1), tell(0, 0), tell(1, 1), meet(0, 1), move(1, 4, 0, 7))
        self.assertEqual(asked[4:], [[0], [0], [0], [0], [0], [-2], [-2], [0, 0, 0], [0, 1, 1]])

    def test_all_calls_before_any_begin(self):
        self.assertEqual(ask(*AT_DESK_1), [[-2]] * len(AT_DESK_1))
        self.assertEqual(ask(*AT_DESK_0, *AFTERWARDS), NOTHING_KNOWN + ONE_DEED_KNOWN)
        for call, answer in zip(AT_DESK_0, NOTHING_KNOWN):
            self.assertEqual(ask(call), [answer])

    def test_all_calls_after_a_begin_that_came_again(self):
        before = [
            begin(3), move(0, 2, 0, 5), move(1, 3, 1, 6), move(2, 4, 0, 7), move(0, 5, 2, 8),
            meet(0, 1), meet(1, 2), meet(0, 2)]
        for desks in (1, 2, 8):
            asked = ask(*before, begin(desks), *AT_DESK_0, *AFTERWARDS)
            self.assertEqual(asked[8:], [[0]] + NOTHING_KNOWN + ONE_DEED_KNOWN)
        self.assertEqual(ask(*before, begin(1), *AT_DESK_1)[9:], [[-2]] * len(AT_DESK_1))
        self.assertEqual(
            ask(*before, begin(2), *AT_DESK_1)[9:],
            [[-2], [0, 0, 0], [0, 0, 0], [0], [0], [1, 0], [0], [1, 1], [1, 1], [1], [0], [0, 1, 1]])

    def test_begin_again_with_fewer_or_more_desks(self):
        asked = ask(begin(3), move(2, 2, 0), begin(1), tree(2), tree(1), tree(0), begin(8), tree(7))
        self.assertEqual(asked[2:], [[0], [-2], [-2], [0], [0], [0]])

    def test_begin_again_gives_100_deeds_again(self):
        deeds = [move(0, 2, 0)] * 100
        asked = ask(begin(1), *deeds, move(0, 2, 0), begin(1), move(0, 2, 0))
        self.assertEqual(asked[-3:], [[-5], [0], [0, 1, 1]])

    def test_a_refused_begin_leaves_all_as_it_was(self):
        for desks in (0, 9, GREATEST):
            asked = ask(
                begin(2), move(0, 2, 0, 5), move(0, 3, 1, 6), begin(desks),
                tree(0), bin_of(0), tree(1), tree(2), tell(1, 1), move(0, 4, 0), deeds_of(0), deeds_of(1))
            self.assertEqual(asked[3:], [
                [-1], [1, 2, 1, 5], [1, 3, 1, 6], [0], [-2], [1, 0], [2, 3, 1], [3, 0, 1, 1, 1, 2, 1], [1, 1, 1]])

    def test_before_any_begin(self):
        self.assertEqual(
            ask(tree(0), bin_of(0), tree(1), bin_of(1), meet(0, 0), meet(0, 1), tell(0, 0), tell(0, 1), move(1, 2, 0)),
            [[0], [0], [-2], [-2], [0, 0, 0], [-2], [-2], [-2], [-2]])
        self.assertEqual(ask(move(0, 2, 0, 9), tree(0)), [[0, 1, 1], [1, 2, 1, 9]])
        self.assertEqual(ask(begin(0), tree(0), tree(1)), [[-1], [0], [-2]])
        self.assertEqual(last(move(0, 2, 0), begin(9), tree(0)), [1, 2, 1, 0])
