"""line: what is above a thing, from it up."""

import unittest

from asking import GREATEST, ask, begin, bin_of, last, line, meet, move, tell, tree

CHAIN = [move(0, 2, 0, 7), move(0, 3, 2, 8), move(0, 4, 3, 9)]


class Line(unittest.TestCase):
    def test_the_root_and_the_bin_are_always_there(self):
        self.assertEqual(ask(line(0, 0), line(0, 1)), [[1, 0], [1, 1]])
        self.assertEqual(ask(*CHAIN, move(0, 5, 1), line(0, 0), line(0, 1))[4:], [[1, 0], [1, 1]])
        self.assertEqual(ask(begin(8), line(7, 0), line(7, 1))[1:], [[1, 0], [1, 1]])

    def test_right_under_the_root_or_the_bin(self):
        for top in (0, 1):
            for thing in (2, 3, 62, 63):
                self.assertEqual(last(move(0, thing, top, 5), line(0, thing)), [2, thing, top])

    def test_deep_down(self):
        asked = ask(*CHAIN, line(0, 4), line(0, 3), line(0, 2))
        self.assertEqual(asked[3:], [[4, 4, 3, 2, 0], [3, 3, 2, 0], [2, 2, 0]])
        self.assertEqual(last(move(0, 63, 1), move(0, 2, 63), move(0, 40, 2), line(0, 40)), [4, 40, 2, 63, 1])

    def test_how_deep_it_can_be(self):
        for top in (0, 1):
            chain = [move(0, 2, top)] + [move(0, thing, thing - 1) for thing in range(3, 64)]
            self.assertEqual(last(*chain, line(0, 63)), [63, *range(63, 1, -1), top])

    def test_what_is_beside_or_within_is_not_above(self):
        asked = ask(*CHAIN, move(0, 5, 3), move(0, 6, 4), move(0, 7, 0), line(0, 4), line(0, 5), line(0, 7))
        self.assertEqual(asked[6:], [[4, 4, 3, 2, 0], [4, 5, 3, 2, 0], [2, 7, 0]])

    def test_a_thing_that_is_not_there(self):
        for thing in (2, 3, 62, 63, 64, 65, 2 ** 63, GREATEST):
            self.assertEqual(last(line(0, thing)), [-3])
        everything = [move(0, thing, 0) for thing in range(2, 64)]
        self.assertEqual(ask(*everything, line(0, 63), line(0, 64), line(0, GREATEST))[62:], [[2, 63, 0], [-3], [-3]])

    def test_a_thing_that_no_deed_put_anywhere(self):
        self.assertEqual(ask(move(0, 2, 9), line(0, 2), line(0, 9)), [[0, 1, 2], [-3], [-3]])
        self.assertEqual(ask(move(0, 2, 2), line(0, 2)), [[0, 1, 2], [-3]])

    def test_a_deed_of_which_nothing_came_leaves_it_there(self):
        asked = ask(*CHAIN, move(0, 2, 4), line(0, 2), move(0, 3, 9), line(0, 3))
        self.assertEqual(asked[3:], [[3, 4, 3], [2, 2, 0], [4, 5, 2], [3, 3, 2, 0]])

    def test_it_goes_along_with_what_it_is_within(self):
        asked = ask(
            *CHAIN, move(0, 5, 0), move(0, 2, 5), line(0, 4),
            move(0, 5, 1), line(0, 4), move(0, 3, 0), line(0, 4))
        self.assertEqual(asked[5], [5, 4, 3, 2, 5, 0])
        self.assertEqual(asked[7], [5, 4, 3, 2, 5, 1])
        self.assertEqual(asked[9], [3, 4, 3, 0])

    def test_each_desk_has_its_own(self):
        calls = [begin(3), move(0, 2, 0), move(1, 2, 1)]
        self.assertEqual(ask(*calls, line(0, 2), line(1, 2), line(2, 2))[3:], [[2, 2, 0], [2, 2, 1], [-3]])
        self.assertEqual(ask(*calls, meet(0, 1), line(0, 2), line(1, 2), line(2, 2))[4:], [[2, 2, 1], [2, 2, 1], [-3]])

    def test_once_an_earlier_deed_is_known(self):
        asked = ask(begin(2), move(0, 2, 1), move(1, 3, 2), line(1, 3), line(1, 2), tell(0, 1), line(1, 3), line(1, 2))
        self.assertEqual(asked[3:], [[-3], [-3], [2, 1], [3, 3, 2, 1], [2, 2, 1]])

    def test_no_such_desk(self):
        self.assertEqual(last(begin(8), move(7, 2, 0), line(7, 2)), [2, 2, 0])
        for desk in (8, 9, GREATEST):
            for thing in (0, 1, 2, 63, 64, GREATEST):
                self.assertEqual(last(begin(8), move(7, 2, 0), line(desk, thing)), [-2])

    def test_nothing_changes(self):
        asked = ask(*CHAIN, line(0, 4), line(0, 5), line(1, 4), tree(0), bin_of(0), move(0, 5, 4))
        self.assertEqual(asked[6:], [[3, 2, 1, 7, 3, 2, 8, 4, 3, 9], [0], [3, 4, 1]])
