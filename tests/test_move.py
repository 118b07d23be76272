"""move: number, count, what comes of it, and its refusals."""

import unittest

from asking import GREATEST, ask, begin, bin_of, last, meet, move, tell, tree

FULL = [move(0, 2, 0)] * 100


class NumberAndCount(unittest.TestCase):
    def test_numbers_go_on_over_all_desks(self):
        asked = ask(begin(3), move(0, 2, 0), move(2, 2, 0), move(1, 3, 0), move(0, 4, 0))
        self.assertEqual([answer[0] for answer in asked[1:]], [0, 1, 2, 3])

    def test_count_is_1_at_a_desk_that_knows_none(self):
        asked = ask(begin(3), move(0, 2, 0), move(0, 3, 0), move(1, 2, 0), move(2, 2, 0))
        self.assertEqual([answer[1] for answer in asked[1:]], [1, 2, 1, 1])

    def test_deeds_of_which_nothing_came_count_too(self):
        self.assertEqual(
            ask(move(0, 2, 9), move(0, 2, 9), move(0, 2, 0)),
            [[0, 1, 2], [1, 2, 2], [2, 3, 1]])

    def test_count_after_a_tell(self):
        asked = ask(
            begin(2), move(0, 2, 0), move(0, 3, 0), move(0, 4, 0),
            tell(2, 1), move(1, 5, 0), tell(0, 1), move(1, 6, 0))
        self.assertEqual(asked[5], [3, 4, 1])
        self.assertEqual(asked[7], [4, 5, 1])

    def test_a_tell_of_a_lesser_count_does_not_lower_it(self):
        asked = ask(begin(2), move(0, 2, 0), move(1, 3, 0), move(1, 4, 0), move(1, 5, 0), tell(0, 1), move(1, 6, 0))
        self.assertEqual(asked[-1], [4, 4, 1])

    def test_count_after_a_meet_at_both(self):
        calls = [begin(3), move(0, 2, 0), move(0, 3, 0), move(1, 4, 0), meet(1, 0)]
        self.assertEqual(last(*calls, move(0, 5, 0)), [3, 3, 1])
        self.assertEqual(last(*calls, move(1, 5, 0)), [3, 3, 1])
        self.assertEqual(last(*calls, move(2, 5, 0)), [3, 1, 1])
        self.assertEqual(last(*calls, move(0, 5, 0), move(1, 5, 0)), [4, 3, 1])

    def test_only_the_desk_itself_knows_it(self):
        asked = ask(begin(2), move(0, 2, 0, 7), tree(0), tree(1), meet(1, 0))
        self.assertEqual(asked[2:], [[1, 2, 1, 7], [0], [1, 1, 0]])


class WhatComes(unittest.TestCase):
    def comes(self, *calls):
        return last(*calls)[2]

    def test_put_under_the_root_the_bin_and_a_thing(self):
        self.assertEqual(ask(move(0, 2, 0, 4), tree(0), bin_of(0)), [[0, 1, 1], [1, 2, 1, 4], [0]])
        self.assertEqual(ask(move(0, 2, 1, 4), tree(0), bin_of(0)), [[0, 1, 1], [0], [1, 2, 1, 4]])
        self.assertEqual(
            ask(move(0, 2, 0, 4), move(0, 3, 2, 5), tree(0)),
            [[0, 1, 1], [1, 2, 1], [2, 2, 1, 4, 3, 2, 5]])

    def test_under_a_thing_that_is_not_there(self):
        self.assertEqual(ask(move(0, 2, 3, 4), tree(0), bin_of(0)), [[0, 1, 2], [0], [0]])
        self.assertEqual(self.comes(move(0, 2, 0), move(0, 3, 63)), 2)

    def test_a_thing_that_is_there_stays_when_the_other_is_not(self):
        self.assertEqual(ask(move(0, 2, 0, 4), move(0, 2, 3, 5), tree(0))[1:], [[1, 2, 2], [1, 2, 1, 4]])

    def test_under_itself(self):
        self.assertEqual(self.comes(move(0, 2, 2)), 2)
        self.assertEqual(ask(move(0, 2, 0, 4), move(0, 2, 2, 5), tree(0))[1:], [[1, 2, 3], [1, 2, 1, 4]])
        self.assertEqual(ask(move(0, 2, 1, 4), move(0, 2, 2, 5), bin_of(0))[1:], [[1, 2, 3], [1, 2, 1, 4]])

    def test_under_something_within_it(self):
        chain = [move(0, 2, 0, 1), move(0, 3, 2, 2), move(0, 4, 3, 3)]
        kept = [3, 2, 1, 1, 3, 2, 2, 4, 3, 3]
        self.assertEqual(ask(*chain, move(0, 2, 3, 9), tree(0))[3:], [[3, 4, 3], kept])
        self.assertEqual(ask(*chain, move(0, 2, 4, 9), tree(0))[3:], [[3, 4, 3], kept])
        self.assertEqual(ask(*chain, move(0, 3, 4, 9), tree(0))[3:], [[3, 4, 3], kept])

    def test_upwards_and_sideways_it_can_be_put(self):
        chain = [move(0, 2, 0, 1), move(0, 3, 2, 2), move(0, 4, 3, 3)]
        self.assertEqual(self.comes(*chain, move(0, 4, 2)), 1)
        self.assertEqual(self.comes(*chain, move(0, 4, 3)), 1)
        self.assertEqual(self.comes(*chain, move(0, 5, 0), move(0, 2, 5)), 1)
        self.assertEqual(self.comes(*chain, move(0, 3, 0), move(0, 2, 4)), 1)

    def test_within_a_chain_of_all_things(self):
        chain = [move(0, 2, 0)] + [move(0, thing, thing - 1) for thing in range(3, 64)]
        self.assertEqual(self.comes(*chain, move(0, 2, 63)), 3)
        self.assertEqual(self.comes(*chain, move(0, 63, 2)), 1)

    def test_out_of_the_bin_again(self):
        asked = ask(
            move(0, 2, 0, 4), move(0, 3, 2, 5), move(0, 2, 1, 6), tree(0), bin_of(0),
            move(0, 2, 0, 7), tree(0), bin_of(0))
        self.assertEqual(asked[2:], [
            [2, 3, 1], [0], [2, 2, 1, 6, 3, 2, 5],
            [3, 4, 1], [2, 2, 1, 7, 3, 2, 5], [0]])

    def test_under_a_thing_in_the_bin(self):
        asked = ask(move(0, 2, 1, 4), move(0, 3, 0, 5), move(0, 3, 2, 6), tree(0), bin_of(0))
        self.assertEqual(asked[2:], [[2, 3, 1], [0], [2, 2, 1, 4, 3, 2, 6]])

    def test_the_same_place_with_another_label(self):
        asked = ask(move(0, 2, 0, 4), move(0, 2, 0, 8), tree(0))
        self.assertEqual(asked[1:], [[1, 2, 1], [1, 2, 1, 8]])

    def test_what_comes_at_this_desk_not_at_another(self):
        asked = ask(begin(2), move(0, 2, 0), move(1, 3, 2), move(0, 3, 2))
        self.assertEqual(asked[2:], [[1, 1, 2], [2, 2, 1]])


class Refusals(unittest.TestCase):
    def test_no_such_desk(self):
        self.assertEqual(last(begin(8), move(7, 2, 0)), [0, 1, 1])
        for desk in (8, 9, 63, GREATEST):
            self.assertEqual(last(begin(8), move(desk, 2, 0)), [-2])

    def test_things(self):
        for thing in (2, 3, 62, 63):
            self.assertEqual(last(move(0, thing, 0)), [0, 1, 1])
        for thing in (0, 1, 64, 65, 2 ** 32, GREATEST):
            self.assertEqual(last(move(0, thing, 0)), [-1])

    def test_what_it_is_put_under(self):
        self.assertEqual(last(move(0, 63, 0), move(0, 2, 63)), [1, 2, 1])
        self.assertEqual(last(move(0, 2, 63)), [0, 1, 2])
        for under in (64, 65, 2 ** 32, GREATEST):
            self.assertEqual(last(move(0, 2, under)), [-1])

    def test_labels(self):
        for label in (0, 1, 10 ** 9 - 1, 10 ** 9):
            self.assertEqual(ask(move(0, 2, 0, label), tree(0)), [[0, 1, 1], [1, 2, 1, label]])
        for label in (10 ** 9 + 1, 2 ** 32, GREATEST):
            self.assertEqual(last(move(0, 2, 0, label)), [-1])

    def test_the_deed_after_the_100th(self):
        self.assertEqual(last(*FULL), [99, 100, 1])
        asked = ask(begin(2), *FULL, move(0, 3, 0), move(1, 3, 0), tree(0), tree(1))
        self.assertEqual(asked[100:], [[99, 100, 1], [-5], [-5], [1, 2, 1, 0], [0]])

    def test_100_deeds_over_all_desks_and_of_any_outcome(self):
        deeds = [move(number % 4, 2, (0, 2, 9)[number % 3]) for number in range(100)]
        asked = ask(begin(4), *deeds, move(3, 2, 0))
        self.assertEqual(asked[100][0], 99)
        self.assertEqual(asked[101], [-5])

    def test_refused_deeds_are_not_among_the_100(self):
        asked = ask(*FULL[:99], move(0, 1, 0), move(1, 2, 0), move(0, 2, 0), move(0, 2, 0))
        self.assertEqual(asked[99:], [[-1], [-2], [99, 100, 1], [-5]])

    def test_which_of_several_is_told(self):
        self.assertEqual(last(move(1, 0, 0)), [-2])
        self.assertEqual(last(move(1, 64, 64, GREATEST)), [-2])
        self.assertEqual(last(*FULL, move(1, 2, 0)), [-2])
        self.assertEqual(last(*FULL, move(1, 0, 64, GREATEST)), [-2])
        self.assertEqual(last(*FULL, move(0, 1, 0)), [-1])
        self.assertEqual(last(*FULL, move(0, 64, 0)), [-1])
        self.assertEqual(last(*FULL, move(0, 2, 64)), [-1])
        self.assertEqual(last(*FULL, move(0, 2, 0, 10 ** 9 + 1)), [-1])

    def test_a_refused_move_leaves_all_as_it_was(self):
        refused = [move(1, 2, 0), move(0, 0, 0), move(0, 1, 0), move(0, 64, 0), move(0, 2, 64), move(0, 2, 1, GREATEST)]
        asked = ask(move(0, 2, 0, 4), *refused, tree(0), bin_of(0), tell(1, 0), move(0, 3, 2, 5))
        self.assertEqual(asked[7:], [[1, 2, 1, 4], [0], [-2], [1, 2, 1]])
